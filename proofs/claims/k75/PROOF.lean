import PyProof.Rows.All
import Wide.All
import OpenK.AllK
import Wide.FinOn
import PyProof.EqAt
import PyProof.EqKinds
import PyProof.TupleCall
import KE.SortData
import HandS.Base
import HandS.Call
import HandS.List
import HandS.Comp
import HandS.Ends
import HandS.Set
import HandS.SetBool
import PyProof.InstEq
import PyProof.InstNe
import PyProof.TupleOfSeq
import PyProof.P3In
import KE.GoesEnum
import HandS.Iter
import HandS.Deep
import HandS.Evl
import HandS.More
import HandS.IsInst
import HandS.TupAny
import HandS.Words
import HandS.SetFor
import HandS.Strs
import PyProof.SetRoads
import HandS.Dict
import HandS.DictComp
import HandS.Text
import KE.IntTextText
import HandS.Property
import HandS.Style
import HandS.Defaults
import HandS.WordsList
import HandS.Exc
import HandS.ExcOwn
import KE.KExcSuper
import HandS.ExcInit
import HandS.ExcSuper
import HandS.WordsExc
import KE.KStateDown
import HandS.Head0
import HandS.Head1
import HandS.Head2
import HandS.HeadEnd
import HandS.HeadHook1
import HandS.HeadHook2
import HandS.HeadNt
import KE.DataEq
import HandS.ExcField
import PySem.Challenge.RW_watchedworks_k75_wordings_of_wishes
set_option Elab.async false
set_option linter.all false
set_option maxRecDepth 100000
set_option maxHeartbeats 4000000
/-! Rules of our own over the layer: callees by name, sorted lists of data -/
namespace WW
open PySem PySem.Spec PyProof.Rows L2

/-- nothing is wished of exceptions -/
abbrev CXn : CXT := fun _ _ _ _ _ _ => False
abbrev En : XK := fun _ _ _ => False
theorem passN {X : Cx} {E : XK} : Passes CXn X E := fun _ _ _ _ _ _ _ h => h.elim

/-- a def of the module's, found by its name, with what it promises -/
structure Callee (P : Program) (w : World) (K : PySem.W.Frag) (mg : Str → Option Value) (base : Heap) (CX : CXT) (k : Nat) (x : Str) (n : Nat) (sp : Sp) : Prop where
  ex : ∃ (f : Addr) (fd : FuncData) (ps : List Str), ps.length = n ∧ FnOk P w K mg base CX k f fd ps sp ∧ mg x = some (.ref f) ∧ PySem.W.keepIn K (.ref f) = true ∧ Binds K fd ps []

section
variable {X : Cx} {CX : CXT} {k n : Nat} {sp : Sp} {E : XK} {x : Str} {p pos : Pos} {e : Expr} {es : List Expr} {t : TA}
theorem pe_cl (c : Callee X.prog X.w X.K X.mg X.base CX k x n sp) (hr : Room k X.A) (hg : Gl X x) (hx : Passes CX X E) (ha : PA X (e :: es) t)
    (hdb : (x == ("__debug__" : Str)) = false := by decide) (he : starEach (e :: es) X.env = (false, eval e X.env) :: starEach es X.env := by rfl) (hpl : (backTo pos (starEach es X.env)).any (·.1) = false := by rfl) :
    PE X (.Call (.Name x p) (e :: es) [] pos) (tCall sp [] E t) := by
  obtain ⟨f, fd, ps, _, F, hm, hk, hb⟩ := c.ex
  exact pe_call F hr hg hm hk hb .nil hx ha hdb he hpl
end

/-! ### sorted of lists of data -/
/-- v stands for the datum of b -/
abbrev DpE {β : Type} (K : PySem.W.Frag) (H : Hp) (enc : β → PyData) (v : V) (b : β) : Prop := Dp K H v (enc b)

def rSortD {β : Type} (K : PySem.W.Frag) (enc : β → PyData) : List V → Hp → VK → Prop := fun vs H Q => ∃ (a : Addr) (xs : List V) (bs : List β) (F : V → β → Prop), vs = [V.ref a] ∧ SqL K H a xs ∧ Paired (fun v b => F v b ∧ DpE K H enc v b) xs bs ∧
  (∀ b b', PySem.W.alike (enc b) (enc b') = true) ∧ PySem.W.Sortable (bs.map enc) ∧ (∀ b, (enc b).depth ≤ 32) ∧
  ∀ (ys : List V) (p : Addr), Paired F ys (bs.mergeSort (PySem.W.dataLe false enc)) → H p = none → Q (.ref p) (upd H p (.lst ys))


theorem each_of {β : Type} {K : PySem.W.Frag} {H : Hp} {enc : β → PyData} {F : V → β → Prop} : ∀ {xs : List V} {us : List Value} {bs : List β}, Vals xs us → Paired (fun v b => F v b ∧ DpE K H enc v b) xs bs →
    PySem.W.EachIs (fun u b => ∃ v, F v b ∧ RelV v u ∧ Dp K H v (enc b)) us bs
  | _, _, _, .nil, .nil => .nil
  | _, _, _, .cons r t, .cons d e => .cons ⟨_, d.1, r, d.2⟩ (each_of t e)
theorem of_each {β : Type} {F : V → β → Prop} {G : Value → β → Prop} (h : ∀ u b, G u b → ∃ v, RelV v u ∧ F v b) : ∀ {us : List Value} {bs : List β}, PySem.W.EachIs G us bs → ∃ ys, Vals ys us ∧ Paired F ys bs
  | _, _, .nil => ⟨[], .nil, .nil⟩
  | _, _, .cons g t => by
    obtain ⟨v, r, f⟩ := h _ _ g
    obtain ⟨ys, a, b⟩ := of_each h t
    exact ⟨v :: ys, .cons r a, .cons f b⟩
theorem each_reads {β : Type} {X : Cx} {pins : List (Addr × Obj)} {σ : L2.St} {H : Hp} {s : Shared} {enc : β → PyData} (I : Inv X pins σ H s) : ∀ {us : List Value} {bs : List β} {F : V → β → Prop}, PySem.W.EachIs (fun u b => ∃ v, F v b ∧ RelV v u ∧ Dp X.K H v (enc b)) us bs →
    PySem.W.EachIs (fun u b => ∃ as, Reads s.heap u (enc b) as) us bs
  | _, _, _, .nil => .nil
  | _, _, _, .cons ⟨v, _, r, d⟩ t => .cons (Dp.reads I _ _ _ d r) (each_reads I t)

theorem cr_sortD {X : Cx} {β : Type} (enc : β → PyData) (hu : X.A.units + 64 < cLine) : CallR X (.builtin "sorted") (rSortD X.K enc) := by
  intro pins s σ H vs us Q I r h
  obtain ⟨a, xs, bs, F, rfl, hs, hp, hal, hso, hdp, q⟩ := h
  obtain ⟨its, rv, hl, hz⟩ := I.list hs
  rw [Vals.ref1 r]
  have hlen : bs.length = xs.length := (Paired.length hp).symm
  have e1 := each_of rv hp
  refine PySem.W.sorted_data hl.isList e1 (each_reads I e1) (PySem.W.AllAlike.of hal) hso (by omega) (fun b _ => by have := hdp b; omega) fun out ho eo => ?_
  obtain ⟨ep, he'⟩ := PyProof.Rows.sortedAll_at s.heap its out.toArray
  obtain ⟨ys, rys, pys⟩ := of_each (F := F) (fun u b ⟨v, m, r, d⟩ => ⟨v, r, m⟩) eo
  have hly : ys.length ≤ sizeLine := by rw [rys.length, ho, hlen]; exact hz
  exact ⟨.ref _, upd H (s.heap.objs.size + 1) (.lst ys), I.laid (t' := s.toks) (fun _ _ => PyProof.Rows.sortedAll_old) (Nat.le_succ _) ⟨hly, out, ep, rys, he'⟩, rfl, q ys _ pys (I.hok.fresh (Nat.le_succ _))⟩
end WW

set_option Elab.async false
set_option linter.all false
set_option maxRecDepth 100000
set_option maxHeartbeats 4000000
/-! Sets of scannable keys that can be walked: made, filled, sorted. -/
namespace WW
open PySem PySem.Spec PyProof.Rows L2

section
variable {P : Program} {w : World} {κ : Type} [DecidableEq κ]
def EnK (knd : PySem.KeyKind P w κ) (k : κ) (e : Int × Value) : Prop := knd.is k e.2 = true ∧ e.1 = knd.hash k ∧ e.2.scannable = true
/-- ks: the keys that the set holds, in its table's order -/
def SetW (knd : PySem.KeyKind P w κ) (h : Heap) (a : Addr) (ks : List κ) : Prop :=
  ∃ o es ep t, h.get? a = some o ∧ o.ExactSet ∧ o.data = .set es ep t ∧ ks.Nodup ∧ Paired (EnK knd) ks es.toList ∧
    es.size < scanBound ∧ t.fits es.size = true ∧ Ris t.place.toList ∧ (w.params.followText "set-order" = true ∨ t.led = true)
variable {knd : PySem.KeyKind P w κ} {h h' : Heap} {a : Addr} {ks : List κ}

theorem SetW.here (R : SetW knd h a ks) (k : ∀ o, h.get? a = some o → h'.get? a = some o) : SetW knd h' a ks := by
  obtain ⟨o, es, ep, t, ho, r⟩ := R
  exact ⟨o, es, ep, t, k o ho, r⟩
theorem en_mem {l : List (Int × Value)} : ∀ {ks : List κ}, Paired (EnK knd) ks l → ∀ e ∈ l, ∃ k ∈ ks, EnK knd k e
  | _, .nil, e, he => by cases he
  | _, .cons g t, e, he => by
    rcases List.mem_cons.mp he with rfl | he
    · exact ⟨_, List.mem_cons_self, g⟩
    · obtain ⟨k, hk, q⟩ := en_mem t e he
      exact ⟨k, List.mem_cons_of_mem _ hk, q⟩
theorem en_of : ∀ {ks : List κ} {l : List (Int × Value)}, Paired (EnK knd) ks l → ∀ k ∈ ks, ∃ e ∈ l, EnK knd k e
  | _, _, .nil, k, hk => by cases hk
  | _, _, .cons g t, k, hk => by
    rcases List.mem_cons.mp hk with rfl | hk
    · exact ⟨_, List.mem_cons_self, g⟩
    · obtain ⟨e, he, q⟩ := en_of t k hk
      exact ⟨e, List.mem_cons_of_mem _ he, q⟩
theorem en_elems {l : List (Int × Value)} (g : Paired (EnK knd) ks l) : PySem.ElemsOf knd l := fun e he => by
  obtain ⟨k, _, q⟩ := en_mem g e he
  exact ⟨⟨k, q.1, q.2.1⟩, q.2.2⟩
/-- the keys follow the entries into any order -/
theorem en_perm {l : List (Int × Value)} (g : Paired (EnK knd) ks l) {l' : List (Int × Value)} (p : l'.Perm l) : ∃ ks', ks'.Perm ks ∧ Paired (EnK knd) ks' l' := by
  induction p generalizing ks with
  | nil => exact ⟨ks, List.Perm.refl _, g⟩
  | cons x _ ih =>
    cases g with
    | @cons k _ kr _ g1 g2 =>
      obtain ⟨ks', p', g'⟩ := ih g2
      exact ⟨k :: ks', p'.cons k, .cons g1 g'⟩
  | swap x y l =>
    cases g with
    | @cons k _ kr _ g1 g2 =>
      cases g2 with
      | @cons k2 _ kr2 _ g3 g4 => exact ⟨k2 :: k :: kr2, List.Perm.swap _ _ _, .cons g3 (.cons g1 g4)⟩
  | trans _ _ ih1 ih2 =>
    obtain ⟨k2, p2, g2⟩ := ih2 g
    obtain ⟨k1, p1, g1⟩ := ih1 g2
    exact ⟨k1, p1.trans p2, g1⟩
theorem en_app {l : List (Int × Value)} (g : Paired (EnK knd) ks l) {k : κ} {e : Int × Value} (q : EnK knd k e) : Paired (EnK knd) (ks ++ [k]) (l ++ [e]) := by
  induction g with
  | nil => exact .cons q .nil
  | cons g1 _ ih => exact .cons g1 ih
end

section
variable {P : Program} {w : World} {κ : Type} [DecidableEq κ] {knd : PySem.KeyKind P w κ} {A : Around} {E : Value → Shared → Prop} {s : Shared} {a : Addr} {ks : List κ}

theorem put_at {h : Heap} {o : Obj} {es es' : Array (Int × Value)} {ep : Nat} {t t' : SetTable} (ho : h.get? a = some o) (hd : o.data = .set es ep t) :
    (h.update a (Obj.putSet es' t')).get? a = some { o with data := .set es' (ep + 1) t' } := PpSet.storeB_at ho hd

/-- the end of an addition: stored, and laid anew where it is too full -/
theorem setw_tail {gv : Bool → Sem Unit} (hg : ∀ (b : Bool) (s1 : Shared) (Q' : Unit → Shared → Prop), Q' () s1 → wpAny (model P w) A (gv b) Q' E s1)
    {o : Obj} {es : Array (Int × Value)} {ep : Nat} {t : SetTable} (ho : s.heap.get? a = some o) (hex : o.ExactSet) (hd : o.data = .set es ep t)
    {es1 : Array (Int × Value)} {t2 : SetTable} {k1 : List κ} (nd1 : k1.Nodup) (g1 : Paired (EnK knd) k1 es1.toList)
    (hb1 : es1.size < scanBound) (hf2 : t2.fits es1.size = true) (hr : Ris t2.place.toList) (hl : w.params.followText "set-order" = true ∨ t2.led = true) {wd : Bool} {R : Option Bool → Shared → Prop}
    (hR : ∀ h' k2, k2.Perm k1 → Heap.SameBut a s.heap h' → SetW knd h' a k2 → R (some true) { s with heap := h' }) :
    wpAny (model P w) A (do
        storeSet a es1 t2
        if (!wd && t2.tooFull) = true then do
            gv (relayAll t2 es1 (SetTable.grown es1.size)).2.2
            storeSet a (relayAll t2 es1 (SetTable.grown es1.size)).1 (relayAll t2 es1 (SetTable.grown es1.size)).2.1
            pure (some true)
          else pure (some true)) R E s := by
  refine wpAny_bind (wpAny_storeSet_of ho hd ?_ (fits_of_scanBound hb1))
  have hput := put_at (es' := es1) (t' := t2) ho hd
  have same1 := Heap.SameBut.update s.heap a (Obj.putSet es1 t2)
  split
  · have pm := relayAll_perm t2 es1 (SetTable.grown es1.size)
    have f3 := relayAll_fits t2 es1 (SetTable.grown es1.size)
    have r3 := relayAll_ris t2 es1 (SetTable.grown es1.size)
    have l3 := relayAll_led t2 es1 (SetTable.grown es1.size)
    revert pm f3 r3 l3
    rcases relayAll t2 es1 (SetTable.grown es1.size) with ⟨es2, t3, gave⟩
    intro pm f3 r3 l3
    dsimp only at pm f3 r3 l3 ⊢
    have size2 : es2.size = es1.size := by rw [← Array.length_toList, pm.length_eq, Array.length_toList]
    have small2 : es2.size < scanBound := by rw [size2]; exact hb1
    obtain ⟨k2, pk, g2⟩ := en_perm g1 pm
    refine wpAny_bind (hg _ _ _ ?_)
    refine wpAny_bind (wpAny_storeSet_of hput rfl ?_ (fits_of_scanBound small2))
    refine wpAny_pure (hR _ k2 pk (same1.trans (Heap.SameBut.update _ a _)) ?_)
    exact ⟨_, es2, _, t3, put_at hput rfl, hex, rfl, pk.nodup_iff.mpr nd1, g2, small2, f3, r3, hl.imp id fun z => by rw [l3]; exact z⟩
  · exact wpAny_pure (hR _ k1 (List.Perm.refl _) same1 ⟨_, es1, _, t2, hput, hex, rfl, nd1, g1, hb1, hf2, hr, hl⟩)

/-- what an addition leaves -/
def Added (ks : List κ) (k : κ) (ks' : List κ) : Prop := (k ∈ ks ∧ ks' = ks) ∨ (k ∉ ks ∧ ks'.Perm (k :: ks))
theorem setw_addHashed {k : κ} {v : Value} {Q : Bool → Shared → Prop} (hk : knd.is k v = true) (hv : v.scannable = true) (R : SetW knd s.heap a ks) (room : ks.length + 1 < scanBound)
    (hQ : ∀ b h' ks', Heap.SameBut a s.heap h' → SetW knd h' a ks' → Added ks k ks' → Q b { s with heap := h' }) :
    wpAny (model P w) A (setAddHashed a v (knd.hash k)) Q E s := by
  have R0 := R
  obtain ⟨o, es, ep, t, ho, hex, hd, nd, g, hb, hf, hr, hl⟩ := R
  have hel := en_elems g
  have hlen : es.size = ks.length := by rw [← Array.length_toList]; exact (Paired.length g).symm
  unfold setAddHashed setAddHashedIn
  refine wpAny_holding (wpAny_bind (wpAny_setState_of ho hd hf ?_))
  dsimp only
  rw [byScan_of hv hb hel]
  simp only [↓reduceIte]
  unfold setAddByScan
  refine wpAny_bind (wpAny_bind (wpAny_rule ?_))
  refine wpAny_bind (wpAny_setScan_of hk ho hd hf hel ?_)
  cases hfi : List.findIdx? (fun e => knd.is k e.2) es.toList with
  | some j =>
    dsimp only
    obtain ⟨hj, pj, _⟩ := List.findIdx?_eq_some_iff_getElem.mp hfi
    obtain ⟨k0, m0, q0⟩ := en_mem g _ (List.getElem_mem hj)
    have e0 : k0 = k := knd.inj _ _ _ q0.1 pj
    exact wpAny_pure (wpAny_pure (hQ false s.heap ks (Heap.SameBut.refl a s.heap) R0 (.inl ⟨e0 ▸ m0, rfl⟩)))
  | none =>
    dsimp only
    have hnk : k ∉ ks := fun z => by
      obtain ⟨e, he, q⟩ := en_of g k z
      have c := List.findIdx?_eq_none_iff.mp hfi e he
      rw [q.1] at c
      cases c
    have hgw : ∀ (b : Bool) (s1 : Shared) (Q' : Unit → Shared → Prop), Q' () s1 → wpAny (model P w) A (match b with | true => rule "set.scan.the-table-gave-way" | false => pure ()) Q' E s1 := by
      intro b s1 Q' q
      cases b
      · exact wpAny_pure q
      · exact wpAny_rule q
    have pm := layNew_perm t es (knd.hash k) v
    have f1 := layNew_fits t es (knd.hash k) v
    have r1 := layNew_ris t es (knd.hash k) v hr
    have l1 := layNew_led t es (knd.hash k) v
    revert pm f1 r1 l1
    rcases layNew t es (knd.hash k) v with ⟨es1, t1, wd, gave⟩
    intro pm f1 r1 l1
    dsimp only at pm f1 r1 l1 ⊢
    rw [Array.toList_push] at pm
    obtain ⟨k1, pk, g1⟩ := en_perm (en_app g ⟨hk, rfl, hv⟩) pm
    have pk' : k1.Perm (k :: ks) := pk.trans (List.perm_append_singleton _ _)
    have nd1 : k1.Nodup := pk'.nodup_iff.mpr (List.nodup_cons.mpr ⟨hnk, nd⟩)
    have hb1 : es1.size < scanBound := by
      rw [← Array.length_toList, ← Paired.length g1, pk'.length_eq, List.length_cons]
      exact room
    have led1 : w.params.followText "set-order" = true ∨ t1.led = true := hl.imp id fun z => by rw [l1]; exact z
    have fin : ∀ (b : Bool) h' k2, k2.Perm k1 → Heap.SameBut a s.heap h' → SetW knd h' a k2 → Q b { s with heap := h' } := fun b h' k2 p2 sb r => hQ b h' k2 sb r (.inr ⟨hnk, p2.trans pk'⟩)
    refine wpAny_bind (hgw _ _ _ ?_)
    split
    · refine wpAny_bind ?_
      rw [hashByValue_scannable 8 hv]
      refine wpAny_pure ?_
      refine setw_tail hgw ho hex hd nd1 g1 hb1 ?_ ?_ ?_ ?_
      · split <;> first | exact f1 | exact SetTable.fits_plain_off f1
      · split <;> exact r1
      · split <;> exact led1
      · intro h' k2 p2 sb r; dsimp only; exact wpAny_pure (fin _ h' k2 p2 sb r)
    · refine wpAny_bind (wpAny_pure ?_)
      simp only [↓reduceIte]
      refine setw_tail hgw ho hex hd nd1 g1 hb1 f1 r1 led1 ?_
      intro h' k2 p2 sb r; dsimp only; exact wpAny_pure (fin _ h' k2 p2 sb r)

/-- found.add(k) -/
theorem setw_add {k : κ} {v : Value} {Q : Value → Shared → Prop} (hk : knd.is k v = true) (hv : v.scannable = true) (R : SetW knd s.heap a ks) (room : ks.length + 1 < scanBound)
    (hQ : ∀ h' tk ks', Heap.SameBut a s.heap h' → SetW knd h' a ks' → Added ks k ks' → Q .none { s with heap := h', toks := tk }) :
    wpAny (model P w) A (call (.builtin "set.add") [.ref a, v]) Q E s := by
  have hT : s.TypeIs (.ref a) "set" := by
    obtain ⟨o, es, ep, t, ho, hex, _⟩ := R
    exact ⟨o, ho, hex.1⟩
  refine wpAny_call_entry F.slot_set_add hT F.entry_set_add ?_ (F.args_set_add_2 _ _)
  unfold Builtin.«set.add» Builtin.Frozenset.oneOther
  simp only [List.isEmpty_nil, bind_assoc]
  unfold Builtin.Frozenset.addrOf setAdd
  refine wpAny_bind (wpAny_pure ?_)
  try dsimp only
  refine wpAny_bind (wpAny_pure ?_)
  try dsimp only
  refine wpAny_bind ?_
  refine wpAny_holding ?_
  refine wpAny_bind (knd.pyHash hk ?_)
  refine setw_addHashed (s := { s with toks := s.toks + 1 }) hk hv R room fun b h' ks' sb r ad => ?_
  show wpAny _ _ (ret Value.none) _ _ _
  exact wpAny_pure ⟨_, rfl, hQ h' (s.toks + 1) ks' sb r ad⟩
theorem setw_fresh {h : Heap} : SetW knd (h.push { cls := .type "set", dict := none, data := .set #[] 0 (.fresh 0 0 (!w.params.followText "set-order")) }) h.objs.size [] :=
  ⟨_, #[], 0, _, Heap.get?_push_size _ rfl, ⟨rfl, rfl, rfl⟩, rfl, List.nodup_nil, .nil, (by decide), (by rfl), List.Pairwise.nil, by
    show _ ∨ (!w.params.followText "set-order") = true
    cases w.params.followText "set-order"
    · exact .inr rfl
    · exact .inl rfl⟩
end
end WW

set_option Elab.async false
set_option linter.all false
set_option maxRecDepth 100000
set_option maxHeartbeats 4000000
/-! Sets of texts as tracked things; sorted of one; {text for ..}; set(list of texts). -/
namespace WW
open PySem PySem.Spec PyProof.Rows L2

def leS (a b : Str) : Bool := decide (a.cps.toList ≤ b.cps.toList)
/-- the texts, ascending -/
def sortS (ks : List Str) : List Str := ks.mergeSort leS

/-- a set of texts -/
def SSO (P : Program) (w : World) (a : Addr) (ks : List Str) : HO := .ext fun h => SetW (PySem.strKind P w) h a ks
theorem sso_new {P : Program} {w : World} {H : Hp} {h : Heap} {a : Addr} {ks : List Str} (R : SetW (PySem.strKind P w) h a ks) : ObjOk P w H h a (SSO P w a ks) := by
  have ⟨o, _, _, _, ho, _⟩ := R
  exact ⟨R, ⟨o, ho⟩, fun h1 h2 p k => SetW.here p k⟩
section
variable {X : Cx}
theorem sso_get {pins : List (Addr × Obj)} {σ : L2.St} {H : Hp} {s : Shared} {a : Addr} {ks : List Str} (I : Inv X pins σ H s) (ha : H a = some (SSO X.prog X.w a ks)) : SetW (PySem.strKind X.prog X.w) s.heap a ks := (I.hok a _ ha).1

theorem setw_vals {P : Program} {w : World} {ks : List Str} {l : List (Int × Value)} (g : Paired (EnK (PySem.strKind P w)) ks l) : StrsAre (l.map (·.2)) ks := by
  induction g with
  | nil => exact .nil
  | @cons k e ks l q _ ih =>
    obtain ⟨t, et⟩ := Value.isStrOf_shape (x := k) (v := e.2) q.1
    show StrsAre (e.2 :: l.map (·.2)) (k :: ks)
    rw [et]
    exact .cons k t ih
theorem strs_perm {us vs : List Value} {ks : List Str} (h : StrsAre vs ks) (p : us.Perm vs) : ∃ ks', ks'.Perm ks ∧ StrsAre us ks' := by
  induction p generalizing ks with
  | nil => exact ⟨ks, List.Perm.refl _, h⟩
  | cons x _ ih =>
    cases h with
    | cons k t h2 =>
      obtain ⟨k2, p2, g2⟩ := ih h2
      exact ⟨k :: k2, p2.cons k, .cons k t g2⟩
  | swap x y l =>
    cases h with
    | cons k t h2 =>
      cases h2 with
      | cons k2 t2 h3 => exact ⟨_, List.Perm.swap _ _ _, .cons k2 t2 (.cons k t h3)⟩
  | trans _ _ ih1 ih2 =>
    obtain ⟨k2, p2, g2⟩ := ih2 h
    obtain ⟨k1, p1, g1⟩ := ih1 g2
    exact ⟨k1, p1.trans p2, g1⟩
theorem leS_trans (a b c : Str) (h1 : leS a b = true) (h2 : leS b c = true) : leS a c = true := by
  unfold leS at *
  exact decide_eq_true (Std.le_trans (of_decide_eq_true h1) (of_decide_eq_true h2))
theorem leS_total (a b : Str) : (leS a b || leS b a) = true := by
  unfold leS
  rcases Std.le_total (a := a.cps.toList) (b := b.cps.toList) with h | h
  · rw [decide_eq_true h, Bool.true_or]
  · rw [decide_eq_true h, Bool.or_true]
theorem str_ext {a b : Str} (h : a.cps.toList = b.cps.toList) : a = b := by
  cases a; cases b
  exact congrArg Str.mk (Array.ext' h)
theorem leS_anti (a b : Str) (h1 : leS a b = true) (h2 : leS b a = true) : a = b := by
  unfold leS at *
  exact str_ext (Std.le_antisymm (of_decide_eq_true h1) (of_decide_eq_true h2))
theorem sortS_sorted (ks : List Str) : (sortS ks).Pairwise (fun a b => leS a b = true) := List.pairwise_mergeSort leS_trans leS_total ks
theorem sortS_perm (ks : List Str) : (sortS ks).Perm ks := List.mergeSort_perm ks leS
/-- the ascending list depends on the members alone -/
theorem sortS_congr {ks ls : List Str} (p : ks.Perm ls) : sortS ks = sortS ls :=
  List.Perm.eq_of_pairwise (fun a b _ _ => leS_anti a b) (sortS_sorted ks) (sortS_sorted ls) (((sortS_perm ks).trans p).trans (sortS_perm ls).symm)
theorem sortS_mem {ks : List Str} {x : Str} : x ∈ sortS ks ↔ x ∈ ks := (sortS_perm ks).mem_iff
theorem sortS_len (ks : List Str) : (sortS ks).length = ks.length := (sortS_perm ks).length_eq

theorem strsAre_each : ∀ {vs : List Value} {ks : List Str}, StrsAre vs ks → PySem.W.EachIs (fun v (k : Str) => ∃ t, v = Value.str k t) vs ks
  | _, _, .nil => .nil
  | _, _, .cons k t h => .cons ⟨t, rfl⟩ (strsAre_each h)
theorem each_strsAre : ∀ {vs : List Value} {ks : List Str}, PySem.W.EachIs (fun v (k : Str) => ∃ t, v = Value.str k t) vs ks → StrsAre vs ks
  | _, _, .nil => .nil
  | _, _, .cons ⟨t, e⟩ h => by subst e; exact .cons _ t (each_strsAre h)
theorem le_str_eq : PySem.W.dataLe false PyData.str = leS := PySem.W.dataLe_str (fun k => k)

def rSortSS (P : Program) (w : World) : List V → Hp → VK → Prop := fun vs H Q => ∃ (a : Addr) (ks : List Str), vs = [V.ref a] ∧ H a = some (SSO P w a ks) ∧
  ∀ p, H p = none → Q (.ref p) (upd H p (.lst ((sortS ks).map V.str)))
theorem cr_sortSS (hc : X.calm = true) (hu : X.A.units + 64 < cLine) : CallR X (.builtin "sorted") (rSortSS X.prog X.w) := by
  intro pins s σ H vs us Q I r h
  obtain ⟨a, ks, rfl, ha, q⟩ := h
  rw [Vals.ref1 r]
  obtain ⟨o, es, ep, t, ho, hex, hd, nd, g, hb, hf, hr, hl⟩ := sso_get I ha
  refine Calls.call_function_entry kind_sorted plain_sorted entry_sorted (args_sorted1 _) ?_
  unfold Builtin.«sorted»
  refine wpAny_bind (m := checkCount "sorted" 1 1 _) (wpAny_pure ?_)
  refine wpAny_bind (collect_set (A := X.A.in1) (I.ok.hd hc) ⟨o, ho, hex.1, hd⟩ hf hb hr hl fun s1 out k1 z1 g1 o1 pm => ?_)
  obtain ⟨k2, pk, sa⟩ := strs_perm (setw_vals g) pm
  have hlen : out.length = ks.length := by rw [sa.length, pk.length_eq]
  have hk0 : ks.length = es.size := by rw [Paired.length g, Array.length_toList]
  have hz : out.length ≤ sizeLine := by rw [hlen, hk0]; exact fits_of_scanBound hb
  have I1 : Inv X pins σ H s1 := I.call' (ch := []) o1 (Un.kept k1) (I.hok.kept k1) (by rw [g1]; exact I.bare) (fun _ z => nomatch z)
  refine wpAny_bind (wpAny_newList ?_ hz)
  have hoL : (s1.heap.push (seqObj "list" out.toArray 0)).get? s1.heap.objs.size = some (seqObj "list" out.toArray 0) := Heap.get?_push_size _ rfl
  have ee := strsAre_each sa
  refine wpAny_bind (wpAny_holding (PySem.W.list_sort_data (enc := PyData.str) (s := { s1 with heap := s1.heap.push (seqObj "list" out.toArray 0) }) hoL ee (ee.mono fun v k ⟨t, e⟩ => ⟨[], by subst e; exact ⟨Reads.str k t, by simp⟩⟩) (PySem.W.AllAlike.of fun b b' => by simp [PySem.W.alike])
    (PySem.W.Sortable.others fun b => ⟨by simp, by simp⟩) (by rw [pk.length_eq, ← hlen]; exact hz) (fun b _ => by show X.A.units + 1 + 1 + 0 < cLine; omega) fun out2 h2 e2 => ?_))
  have en : k2.mergeSort (PySem.W.dataLe false PyData.str) = sortS ks := by
    rw [le_str_eq]
    exact sortS_congr pk
  rw [en] at e2
  obtain ⟨c, hc2⟩ := sortedHeap_at (vs := out) (out := out2.toArray) hoL
  have hold : ∀ b u, s1.heap.get? b = some u → (sortedHeap (s1.heap.push (seqObj "list" out.toArray 0)) s1.heap.objs.size out out2.toArray).get? b = some u := fun b u e => by
    have lt := Heap.lt_size e
    exact (sortedHeap_old (Nat.ne_of_lt lt) (by rw [Heap.size_push]; exact Nat.lt_succ_of_lt lt)).trans (Heap.get?_push_of_some _ e)
  have sa2 := each_strsAre e2
  refine wpAny_pure ⟨_, rfl, .ref s1.heap.objs.size, upd H s1.heap.objs.size (.lst ((sortS ks).map V.str)), I1.laid (t' := s1.toks) hold (Nat.le_refl _) ⟨?_, out2, c, vals_of_strs sa2, hc2⟩, rfl, q _ (I1.hok.fresh (Nat.le_refl _))⟩
  rw [List.length_map, sortS_len, ← hlen]
  exact hz
end
end WW

set_option Elab.async false
set_option linter.all false
set_option maxRecDepth 100000
set_option maxHeartbeats 4000000
/-! {e for x in ..}: whatever the set holds. -/
namespace WW
open PySem PySem.Spec PyProof.Rows L2

/-- what set.add does to the tracked set at D: y is put in, N is what then holds of the heap -/
abbrev AddT := V → Addr → Hp → (Hp → Prop) → Prop
/-- a set's making and filling, for any body -/
structure SetMk (P : Program) (w : World) (new : Addr → HO) (add : AddT) : Prop where
  laid : ∀ (H : Hp) (h : Heap), ObjOk P w H (h.push { cls := .type "set", dict := none, data := .set #[] 0 (.fresh 0 0 (!w.params.followText "set-order")) }) h.objs.size (new h.objs.size)
  put : ∀ (X : Cx), X.prog = P → X.w = w → ∀ (pins : List (Addr × Obj)) (σ : L2.St) (H : Hp) (s : Shared) (D : Addr) (y : V) (v : Value) (N : Hp → Prop) (Q : Value → Shared → Prop) (E : Value → Shared → Prop), Inv X pins σ H s → RelV y v → add y D H N →
    (∀ s' H', Inv X pins σ H' s' → N H' → Q .none s') → wpAny (model P w) X.A (call (.builtin "set.add") [.ref D, v]) Q E s

def tSet (new : Addr → HO) (add : AddT) (wi : TI) (g : TG) (tt : TT) (te : TE) (vs : List Nat) : TE := fun σ H Q => wi σ H fun J H1 => ∀ D, H1 D = none →
  ∃ W : Nat → Nat → Hp → Prop, (∃ m, W 0 m (upd H1 D (new D))) ∧ ∀ i m H2, W i m H2 → (J.stop i H2 ∧ Q (.ref D) H2) ∨
    (J.go i H2 ∧ ∃ Nx : Hp → Prop, (∀ H', Nx H' → ∃ m', m' < m ∧ W (i + 1) m' H') ∧ ∀ x H', J.yld i H2 x H' → g x (wipe σ vs) H' fun σ3 H3 => wipe σ3 vs = wipe σ vs ∧
      tt σ3 H3 fun b H4 => if b = true then te σ3 H4 fun y H5 => add y D H5 Nx else Nx H4)

section
variable {X : Cx}
theorem set_core {new : Addr → HO} {add : AddT} {pins : List (Addr × Obj)} {s : Shared} {σ : L2.St} {H : Hp} {Q : VK} {elt tg iter : Expr} {ifs : List Expr} {scope : Scope} {own : List (PySem.Str × Nat)} {pos pos' : Pos} {wi : TI} {g : TG} {tt : TT} {te : TE}
    {use : Option (Value → Sem Unit)} {Qf : Value → Shared → Prop} (M : SetMk X.prog X.w new add) (calm : X.calm = true) (nd : X.N.Nodup) (I : Inv X pins σ H s) (walk : PI X tg iter wi) (blk : BlkOk X.N X.env.scope scope own)
    (hg : ∀ (s : Shared) (H : Hp) (C : Addr) (cl : List (PySem.Str × Addr)) (fp : List Addr), PG (X.blk s H scope (compEnvC scope cl C X.env) fp) tg g)
    (ht : ∀ (s : Shared) (H : Hp) (C : Addr) (cl : List (PySem.Str × Addr)) (fp : List Addr), PTs (X.blk s H scope (compEnvC scope cl C X.env) fp) ifs tt)
    (he : ∀ (s : Shared) (H : Hp) (C : Addr) (cl : List (PySem.Str × Addr)) (fp : List Addr), PE (X.blk s H scope (compEnvC scope cl C X.env) fp) elt te)
    (plain : ∀ x, foldedSetIterable iter X.env x = pure x) (h : tSet new add wi g tt te (own.map (·.2)) σ H Q)
    (back : ∀ D C s' m H', Inv X pins σ H' s' → Q (.ref D) H' → s'.heap.Ns C m → FpOk X pins H' C → compPost (model X.prog X.w) X.A X.xe use Qf (.ref D) C (.ok .next) s') :
    wpAny (model X.prog X.w) X.A (comprehension (.SetComp elt [⟨tg, iter, ifs, 0⟩] scope pos) scope X.env pos' (newSet (.type "set")) false (eval iter X.env) use) Qf X.xe s := by
  have cellsThere : ∀ y ∈ scope.names, y.2 = .free → ∃ c, X.env.cells.lookup y.1 = some c := fun y my fy =>
    (blk.free y my fy).elim (fun k => I.ok.has _ (.inl k)) fun k => I.ok.has _ (.inr k)
  refine wpAny_comprehension_free (use := use) rfl plain (closure_ok cellsThere) blk.kind (fun y my ey => by rw [blk.uniq y my, ey]) (thn (walk.run pins s σ H _ I h) fun v1 s1 h1 => thn h1 fun v2 s2 h2 => ?_)
  obtain ⟨it, fp, tn, J, H2, rfl, I2, T, start2, free2, rest⟩ := h2
  refine PpSet.newSet_ok (newEnv_comp ?_)
  have fresh2 : H2 s2.heap.objs.size = none := I2.hok.fresh (Nat.le_refl _)
  obtain ⟨W, ⟨m0, w0⟩, turn⟩ := rest s2.heap.objs.size fresh2
  -- the state with the empty set
  have I3 : Inv X pins σ (upd H2 s2.heap.objs.size (new s2.heap.objs.size)) { s2 with heap := s2.heap.push { cls := .type "set", dict := none, data := .set #[] 0 (.fresh 0 0 (!X.w.params.followText "set-order")) } } :=
    I2.laid (t' := s2.toks) (fun _ _ e => Heap.get?_push_of_some _ e) (Nat.le_refl _) (M.laid _ _)
  have below : ∀ b ∈ fp, b < s2.heap.objs.size := fun b hb => let ⟨_, e, _⟩ := T.obj _ _ start2 b hb; Heap.lt_size e
  generalize hD : s2.heap.objs.size = D at w0 turn fresh2 I3 below ⊢
  generalize hs3 : ({ s2 with heap := s2.heap.push { cls := .type "set", dict := none, data := .set #[] 0 (.fresh 0 0 (!X.w.params.followText "set-order")) } } : Shared) = s3 at I3
  have grown : s3.heap = s2.heap.push { cls := .type "set", dict := none, data := .set #[] 0 (.fresh 0 0 (!X.w.params.followText "set-order")) } := by rw [← hs3]
  generalize hH3 : upd H2 D (new D) = H3 at I3 w0
  have free3 : ∀ b ∈ fp, FpOk X pins H3 b ∧ b < s3.heap.objs.size := fun b hb => by
    have lt := below b hb
    refine ⟨⟨?_, (free2 b hb).2⟩, by rw [grown, Heap.size_push, hD]; exact Nat.lt_succ_of_lt lt⟩
    rw [← hH3, upd_ne (Nat.ne_of_lt lt)]
    exact (free2 b hb).1
  have start3 : tn 0 s3.heap := T.keep _ _ _ start2 fun b _ o e => by rw [grown]; exact Heap.get?_push_of_some _ e
  have I4 := block_start I3 blk nd free3
  have ruleG := hg s3 H3 s3.heap.objs.size (cellsFrom (s3.heap.objs.size + 1) scope.names (cloFrom X.env.cells scope.names [])) fp
  have ruleT := ht s3 H3 s3.heap.objs.size (cellsFrom (s3.heap.objs.size + 1) scope.names (cloFrom X.env.cells scope.names [])) fp
  have ruleE := he s3 H3 s3.heap.objs.size (cellsFrom (s3.heap.objs.size + 1) scope.names (cloFrom X.env.cells scope.names [])) fp
  show codeAny _ _ (.compStart (.SetComp elt [⟨tg, iter, ifs, 0⟩] scope pos) 0 (.ref it) (.ref D) (compEnvC scope (cellsFrom (s3.heap.objs.size + 1) scope.names (cloFrom X.env.cells scope.names [])) s3.heap.objs.size X.env))
    (compPost (model X.prog X.w) X.A X.xe use Qf (.ref D) s3.heap.objs.size) { s3 with heap := pushCells (s3.heap.push { cls := .type "dict", data := .dict #[] }) scope.names }
  generalize hce : compEnvC scope (cellsFrom (s3.heap.objs.size + 1) scope.names (cloFrom X.env.cells scope.names [])) s3.heap.objs.size X.env = ce at I4 ruleG ruleT ruleE ⊢
  have frame : ce.locals = s3.heap.objs.size := by rw [← hce] <;> rfl
  generalize hs4 : ({ s3 with heap := pushCells (s3.heap.push { cls := .type "dict", data := .dict #[] }) scope.names } : Shared) = s4 at I4 ⊢
  have start4 : tn 0 s4.heap := T.keep _ _ _ start3 fun b _ o e => by rw [← hs4]; exact pushCells_keeps _ _ _ _ (Heap.get?_push_of_some _ e)
  have quiet : ∀ {σ' : L2.St} {H' : Hp} {s' : Shared}, Inv (X.blk s3 H3 scope ce fp) [] σ' H' s' → (∀ b ∈ fp, H' b = none) → ∀ b ∈ fp, FpOk (X.blk s3 H3 scope ce fp) [] H' b := fun {σ' H' s'} I' n b hb =>
    ⟨n b hb, (I'.ok.exf b hb).1, I'.ok.exfs b hb, .inl hb, (I'.ok.exf b hb).2, fun p hp => absurd (show p ∈ ([] : List (Addr × Obj)) ++ [] from hp) (by simp)⟩
  have loop : codeAny (model X.prog X.w) X.A (.compLoop (.SetComp elt [⟨tg, iter, ifs, 0⟩] scope pos) 0 (.ref it) (.ref D) ce) (compPost (model X.prog X.w) X.A X.xe use Qf (.ref D) s3.heap.objs.size) s4 := by
    refine PpSet.compLoopS_any (fun n s' => ∃ i H', Inv (X.blk s3 H3 scope ce fp) [] (wipe σ (own.map (·.2))) H' s' ∧ tn i s'.heap ∧ (∀ b ∈ fp, H' b = none) ∧ W i n H') ?_ m0 ⟨0, H3, I4, start4, fun b hb => (free3 b hb).1.1, w0⟩
    rintro n s5 ⟨i, H5, I5, at5, none5, w5⟩
    rcases turn i n H5 w5 with ⟨stop, fin⟩ | ⟨go, Nx, hNx, step⟩
    · refine thnF (T.done (X.blk s3 H3 scope ce fp) rfl rfl rfl calm i [] s5 _ H5 (fun _ _ => False) I5 (quiet I5 none5) at5 stop) fun r s6 ⟨er, I6⟩ => ?_
      subst er
      have I7 : Inv X pins σ H5 s6 := I3.call' (ch := fp) I6.os I6.base I6.hok I6.bare fun b hb => ⟨(free3 b hb).1.2.2.2.1, (free3 b hb).1.2.1, (free3 b hb).1.2.2.2.2.1, (free3 b hb).1.2.2.2.2.2⟩
      have nC : H5 s3.heap.objs.size = none := frame ▸ (I6.free : H5 ce.locals = none)
      obtain ⟨m, hn, _⟩ := I6.loc
      have hn' : s6.heap.Ns s3.heap.objs.size m := frame ▸ (hn : s6.heap.Ns ce.locals m)
      exact back D s3.heap.objs.size s6 m H5 I7 fin hn' (I3.fpOk (Nat.le_refl _) nC)
    · refine thnF (T.item (X.blk s3 H3 scope ce fp) rfl rfl rfl calm i [] s5 _ H5 (fun _ _ => False) I5 (quiet I5 none5) at5 go) fun r s6 ⟨u, er, h6⟩ => ?_
      subst er
      refine thnF h6 fun _ s7 ⟨x, H7, I7, r7, y7, at7, none7⟩ => ?_
      refine thnF (ruleG.run _ s7 _ H7 x u _ (I7.pinned (quiet I7 none7) (T.obj _ _ at7)) r7 (step x H7 y7)) fun _ s8 ⟨σ8, H8, I8, wiped, q8⟩ => ?_
      refine thnF (ruleT.run _ s8 σ8 H8 _ I8 q8) fun b s9 ⟨H9, I9, q9⟩ => ?_
      have next : ∀ {s' : Shared} {H' : Hp}, Inv (X.blk s3 H3 scope ce fp) ([] ++ pinsAt fp s7.heap) σ8 H' s' → Nx H' → ∃ m, m < n ∧ ∃ i H', Inv (X.blk s3 H3 scope ce fp) [] (wipe σ (own.map (·.2))) H' s' ∧ tn i s'.heap ∧ (∀ b ∈ fp, H' b = none) ∧ W i m H' := fun {s' H'} I' nx => by
        obtain ⟨m', less, w'⟩ := hNx H' nx
        have pinned : ∀ b ∈ fp, ∀ o, s7.heap.get? b = some o → s'.heap.get? b = some o ∧ H' b = none := fun b hb o e =>
          let z := I'.pin (b, o) (List.mem_append_right _ (List.mem_append_right _ (mem_pinsAt hb e)))
          ⟨z.1, z.2.1⟩
        have len8 : (wipe σ (own.map (·.2))).length = σ8.length := by rw [← wiped, wipe_length]
        refine ⟨m', less, i + 1, H', (I'.unpinned (pins := [])).weak len8 (fun j v e => ?_), T.keep _ _ _ at7 fun b hb o e => (pinned b hb o e).1, fun b hb => ?_, w'⟩
        · rw [← wiped] at e
          exact (wipe_some e).1
        · obtain ⟨o, e, _⟩ := T.obj _ _ at7 b hb
          exact (pinned b hb o e).2
      cases b with
      | false =>
        rw [if_neg Bool.false_ne_true] at q9 ⊢
        exact next I9 q9
      | true =>
        rw [if_pos rfl] at q9 ⊢
        refine thnF (ruleE.run _ s9 σ8 H9 _ I9 q9) fun z s10 ⟨yv, H10, I10, r10, put⟩ => ?_
        exact M.put (X.blk s3 H3 scope ce fp) rfl rfl _ σ8 H10 s10 D yv z Nx _ _ I10 r10 put fun s11 H11 I11 nx => next I11 nx
  exact PpSet.codeAny_compStart_set loop (T.self X.A 0 _ _ _ start4 loop)

theorem pe_set {new : Addr → HO} {add : AddT} {elt tg iter : Expr} {ifs : List Expr} {scope : Scope} {own : List (PySem.Str × Nat)} {pos : Pos} {wi : TI} {g : TG} {tt : TT} {te : TE} (M : SetMk X.prog X.w new add) (calm : X.calm = true) (nd : X.N.Nodup) (walk : PI X tg iter wi) (blk : BlkOk X.N X.env.scope scope own)
    (hg : ∀ (s : Shared) (H : Hp) (C : Addr) (cl : List (PySem.Str × Addr)) (fp : List Addr), PG (X.blk s H scope (compEnvC scope cl C X.env) fp) tg g)
    (ht : ∀ (s : Shared) (H : Hp) (C : Addr) (cl : List (PySem.Str × Addr)) (fp : List Addr), PTs (X.blk s H scope (compEnvC scope cl C X.env) fp) ifs tt)
    (he : ∀ (s : Shared) (H : Hp) (C : Addr) (cl : List (PySem.Str × Addr)) (fp : List Addr), PE (X.blk s H scope (compEnvC scope cl C X.env) fp) elt te)
    (plain : ∀ x, foldedSetIterable iter X.env x = pure x := by intro _; rfl) :
    PE X (.SetComp elt [⟨tg, iter, ifs, 0⟩] scope pos) (tSet new add wi g tt te (own.map (·.2))) := by
  refine ⟨fun pins s σ H Q I h => ?_⟩
  rw [PpSet.eval_SetComp]
  refine set_core M calm nd I walk blk hg ht he plain h fun D C s' m H' I' q hn free => ⟨m, hn, fun h'' sb => ?_⟩
  obtain ⟨f0, f1, f2, f3, f4, f5⟩ := free
  exact ⟨.ref D, H', I'.turned (t' := s'.toks) (fun b o hb e => (sb.2 b hb).trans e) f0 f1 f3 f4 f5, rfl, q⟩
end

/-- texts put in: whatever order the table takes -/
def addS (P : Program) (w : World) : AddT := fun y D H N => ∃ (c : Str) (ks : List Str), y = .str c ∧ H D = some (SSO P w D ks) ∧ ks.length + 1 < scanBound ∧ ∀ ks', Added ks c ks' → N (upd H D (SSO P w D ks'))
theorem mkS (P : Program) (w : World) : SetMk P w (fun D => SSO P w D []) (addS P w) where
  laid := fun H h => sso_new setw_fresh
  put := fun X hP hw pins σ H s D y v N Q E I r ⟨c, ks, ey, hD, room, k⟩ fin => by
    subst hP hw ey
    obtain ⟨t, ev⟩ := r
    subst ev
    refine setw_add (knd := PySem.strKind X.prog X.w) (k := c) (by show Value.isStrOf c (.str c t) = true; simp [Value.isStrOf]) rfl (sso_get I hD) room fun h' tk ks' sb new ad => ?_
    have there : ∃ u, h'.get? D = some u := let ⟨o, _, _, _, ho, _⟩ := new; ⟨o, ho⟩
    exact fin _ _ (I.write (e := D) (t' := tk) (by rw [hD]; trivial) (.inl rfl) (fun b u hb hu => (sb.2 b hb).trans hu) there (sso_new new)) (k ks' ad)
end WW

set_option Elab.async false
set_option linter.all false
set_option maxRecDepth 100000
set_option maxHeartbeats 4000000
/-! x == y and x != y by a class's own __eq__, whatever it answers. -/
namespace WW
open PySem PySem.Spec PyProof.Rows L2

theorem cmpOf {P : Value → Shared → Prop} {z : V} {v : Value} {s' : Shared} (r : RelV z v) (h : P v s') : PySem.W.CmpBack P v s' := by
  cases z <;> (try obtain ⟨t, e⟩ := r) <;> first | exact h | (subst e; exact h) | (cases r; exact h)

/-- x op y of two instances, answered by the def sp -/
def rOwnEq (K : PySem.W.Frag) (C : Addr) (sp : Sp) (E : XK) : R2 := fun x y H Q => ∃ a dx fs b C' dy gs, x = .ref a ∧ y = .ref b ∧ H a = some (.ins C dx fs) ∧ H b = some (.ins C' dy gs) ∧ PySem.W.notFirst K C (.ref C') = true ∧ sp [x, y] H Q E
def rOwnNe (K : PySem.W.Frag) (C : Addr) (sp : Sp) (E : XK) : R2 := fun x y H Q => ∃ a dx fs b C' dy gs, x = .ref a ∧ y = .ref b ∧ H a = some (.ins C dx fs) ∧ H b = some (.ins C' dy gs) ∧ PySem.W.notFirst K C (.ref C') = true ∧
  sp [x, y] H (fun v H' => ∃ k, v = .bl k ∧ Q (.bl (!k)) H') E

section
variable {X : Cx} {CX : CXT} {C f : Addr} {fd : FuncData} {ps : List Str} {sp : Sp} {E : XK} {n : Nat}
theorem op_ownEq (hs : PySem.W.findIn X.K (.ref C) "__eq__" = some (some (.ref f))) (hf : PySem.W.isFn X.K (.ref f) = true) (F : FnOk X.prog X.w X.K X.mg X.base CX n f fd ps sp) (hr : Room n X.A) (hb : Binds X.K fd ps []) (hx : Passes CX X E) :
    OpR X (compareOp .Eq) (rOwnEq X.K C sp E) := by
  intro pins s σ H x y v u Q I rx ry h
  obtain ⟨a, dx, fs, b, C', dy, gs, rfl, rfl, ha, hb', hn, q⟩ := h
  cases rx
  cases ry
  obtain ⟨mA, J, _⟩ := ins_get I.hok ha
  obtain ⟨mB, J', _⟩ := ins_get I.hok hb'
  obtain ⟨od, J, _⟩ := J.look
  obtain ⟨od', J', _⟩ := J'.look
  obtain ⟨m, hF⟩ := I.fr
  show wpAny (model X.prog X.w) X.A (richCompare .Eq (.ref a) (.ref b)) (EP X pins σ Q) X.xe s
  refine PySem.W.cmp_K (op := .Eq) (tb := .ref C') hr.units0 hF I.ok.mod.kin J J'.type hn hs hf ?_
  refine wpAny_mono (run_fn (us := [.ref a, .ref b]) (vs := [.ref a, .ref b]) F hr hb .nil hx I (.cons rfl (.cons rfl .nil)) q) (fun w s' z => ?_) fun _ _ e => e
  obtain ⟨z', H', I', rz, qz⟩ := z
  exact cmpOf rz ⟨z', H', I', rz, qz⟩

/-- the class's __ne__ is object's -/
theorem ne_bound {M : Model} {A : Around} {E' : Value → Shared → Prop} {s : Shared} {K : PySem.W.Frag} {x : Addr} {ox : Obj} {od : Option Obj} {args : List Value} {Q : Option Value → Shared → Prop} (Xk : K.In s.heap) (J : PySem.W.InstAt s.heap x ox C od)
    (hne : PySem.W.findIn K (.ref C) "__ne__" = some (some (.builtin "object.__ne__"))) (h : wpAny M A (call (.builtin "object.__ne__") (.ref x :: args)) (fun v => Q (some v)) E' s) : wpAny M A (callSpecialIfBound? (.ref x) "__ne__" args) Q E' s := by
  simp only [callSpecialIfBound?, bindSpecialIfBound?]
  refine wpAny_holding (wpAny_bind (wpAny_bind (wpAny_bind (J.type.here ((PySem.W.looks_findIn Xk hne).here ?_)))))
  refine wpAny_bind (wpAny_askSetting (wpAny_ite ?_))
  have last : wpAny M A (call (.builtin "object.__ne__") ([.ref x] ++ args) >>= fun v => pure (some v)) Q E' s := wpAny_bind (wpAny_mono h (fun v s' q => wpAny_pure q) fun _ _ q => q)
  split
  · exact wpAny_bind (wpAny_of_eq (PySem.F.cmp_object.ne.bind _) (wpAny_pure (by exact last)))
  · exact wpAny_tryCatch (wpAny_bind (wpAny_of_eq (PySem.F.cmp_object.ne.bind _) (wpAny_pure (by exact last))))

theorem op_ownNe (hs : PySem.W.findIn X.K (.ref C) "__eq__" = some (some (.ref f))) (hne : PySem.W.findIn X.K (.ref C) "__ne__" = some (some (.builtin "object.__ne__"))) (hm : PySem.W.mroIn X.K C (.type "object") = some true) (hf : PySem.W.isFn X.K (.ref f) = true)
    (F : FnOk X.prog X.w X.K X.mg X.base CX n f fd ps sp) (hr : Room (n + 1) X.A) (hb : Binds X.K fd ps []) (hx : Passes CX X E) : OpR X (compareOp .NotEq) (rOwnNe X.K C sp E) := by
  intro pins s σ H x y v u Q I rx ry h
  obtain ⟨a, dx, fs, b, C', dy, gs, rfl, rfl, ha, hb', hn, q⟩ := h
  cases rx
  cases ry
  obtain ⟨mA, J, _⟩ := ins_get I.hok ha
  obtain ⟨mB, J', _⟩ := ins_get I.hok hb'
  obtain ⟨od, J, _⟩ := J.look
  obtain ⟨od', J', _⟩ := J'.look
  have hu : X.A.units + 64 < cLine := hr.units
  -- the def, a level down
  have deep : wpAny (model X.prog X.w) X.A.in1 (call (.ref f) [.ref a, .ref b]) (fun w s' => ∃ k, w = .bool k ∧ EP X pins σ Q (.bool (!k)) s') X.xe s := by
    have hl := F.len _ _ _ _ q
    have bd : BindsTo s fd ⟨[.ref a, .ref b], []⟩ (ps.zip [.ref a, .ref b]) := by
      have z := hb s [.ref a, .ref b] I.kIn (by simpa using hl)
      simpa using z
    refine wpAny_call (codeAny_mono (F.run X.A.in1 X.stack s H ⟨[.ref a, .ref b], []⟩ [.ref a, .ref b] [.ref a, .ref b] _ E hr.in1 I.env0.in1 bd (.cons rfl (.cons rfl .nil)) q) fun r s' hq => ?_)
    cases r with
    | error e => exact hx pins σ H s e s' I hq
    | ok fl =>
      cases fl with
      | ret w =>
        obtain ⟨z, H', I', rz, k, ez, qz⟩ := I.after hq
        subst ez
        cases rz
        exact ⟨k, rfl, .bl (!k), H', I', rfl, qz⟩
      | next => exact False.elim hq
      | brk => exact False.elim hq
      | cont => exact False.elim hq
  have entry : wpAny (model X.prog X.w) X.A.in1 (Builtin.«object.__ne__» ⟨[.ref a, .ref b], []⟩) (fun fin s' => match fin with | .done g => (match g with | .ret w => (∃ k, w = .bool k ∧ EP X pins σ Q (.bool k) s') | _ => False) | .again _ => False) X.xe s := by
    unfold Builtin.«object.__ne__»
    refine wpAny_bind (wpAny_pure ?_)
    refine wpAny_bind (wpAny_cRoomFor (by show X.A.units + 1 < cLine; omega) ?_)
    refine wpAny_bind (PySem.W.ifBound_K I.kIn J hs hf (wpAny_mono deep (fun w s' z => ?_) fun _ _ e => e))
    obtain ⟨k, rfl, hq⟩ := z
    exact wpAny_bind (wpAny_truthy_bool (wpAny_pure ⟨_, rfl, hq⟩))
  have tried : wpAny (model X.prog X.w) X.A (tryCompare (.ref a) "__ne__" (.ref b)) (fun r s' => ∃ w, r = some w ∧ EP X pins σ Q w s') X.xe s := by
    unfold tryCompare
    refine wpAny_bind (ne_bound I.kIn J hne (wpAny_call (codeAny_call_builtin PySem.F.cmp_object.ne.plain PySem.F.cmpEntry_ne (PySem.W.check_slot PySem.F.cmpKind_ne PySem.F.cmpSplit_ne (J.type.andThen (PySem.W.looks_mroIn I.kIn hm)) (PySem.F.cmpArgs_ne _ _)
      (wpAny_mono entry (fun fin s' z => ?_) fun _ _ e => e)))))
    cases fin with
    | again _ => exact z.elim
    | done g =>
      cases g with
      | ret w =>
        obtain ⟨k, rfl, hq⟩ := z
        exact wpAny_pure ⟨_, rfl, hq⟩
      | next => exact z.elim
      | brk => exact z.elim
      | cont => exact z.elim
  show wpAny (model X.prog X.w) X.A (richCompare .NotEq (.ref a) (.ref b)) (EP X pins σ Q) X.xe s
  unfold richCompare
  simp only [oneThing_ref]
  refine wpAny_holding (wpAny_bind (wpAny_cRoomFor hr.units0 ?_))
  rw [PySem.cmpInfo_NotEq]
  dsimp only
  refine wpAny_bind (J.type.here (wpAny_bind (J'.type.here ?_)))
  split
  · rename_i ne
    have e : PySem.W.subIn X.K (.ref C') (.ref C) = some false := by
      rcases Bool.or_eq_true_iff.mp hn with e | e
      · rw [beq_iff_eq.mp e] at ne; simp at ne
      · exact beq_iff_eq.mp e
    refine wpAny_bind ((PySem.W.looks_subIn I.kIn e).here ?_)
    simp only [Bool.false_eq_true, if_false]
    refine wpAny_bind (wpAny_mono tried (fun r s' z => ?_) fun _ _ e => e)
    obtain ⟨w, rfl, hq⟩ := z
    exact wpAny_pure hq
  · refine wpAny_bind (wpAny_pure ?_)
    simp only [Bool.false_eq_true, if_false]
    refine wpAny_bind (wpAny_mono tried (fun r s' z => ?_) fun _ _ e => e)
    obtain ⟨w, rfl, hq⟩ := z
    exact wpAny_pure hq
end
end WW

set_option Elab.async false
set_option linter.all false
set_option maxRecDepth 100000
set_option maxHeartbeats 4000000
/-! A list or a tuple alike: either reading; enumerate, in and sorted of tuples. -/
namespace WW
open PySem PySem.Spec PyProof.Rows L2

/-! ### either reading -/
theorem pe_or {X : Cx} {e : Expr} {t u : TE} (a : PE X e t) (b : PE X e u) : PE X e (fun σ H Q => t σ H Q ∨ u σ H Q) :=
  ⟨fun pins s σ H Q I h => h.elim (a.run pins s σ H Q I) (b.run pins s σ H Q I)⟩
def iOr (a b : TI) : TI := fun σ H R => a σ H R ∨ b σ H R
theorem pi_or {X : Cx} {tg e : Expr} {t u : TI} (a : PI X tg e t) (b : PI X tg e u) : PI X tg e (iOr t u) :=
  ⟨fun pins s σ H Q I h => h.elim (a.run pins s σ H Q I) (b.run pins s σ H Q I)⟩
def rOr3 (a b : List V → Hp → VK → Prop) : List V → Hp → VK → Prop := fun vs H Q => a vs H Q ∨ b vs H Q
theorem cr_or {X : Cx} {f : Value} {r u : List V → Hp → VK → Prop} (a : CallR X f r) (b : CallR X f u) : CallR X f (rOr3 r u) :=
  fun pins s σ H vs us Q I rv h => h.elim (a pins s σ H vs us Q I rv) (b pins s σ H vs us Q I rv)

/-! ### x in a tuple, of data of any kind -/
section
variable {X : Cx}
def rInDT (K : PySem.W.Frag) : R2 := fun x y H Q => ∃ d ds, Dp K H x d ∧ Dp K H y (.tuple ds) ∧ SeqAt.shaped d = true ∧ SeqAt.shaped (.tuple ds) = true ∧ Q (.bl (ds.any fun z => PyData.eqv z d)) H
theorem op_inDT (hu : X.A.units + 65 < cLine) : OpR X (compareOp .In) (rInDT X.K) := by
  intro pins s σ H x y v u Q I rx ry h
  obtain ⟨d, ds, hd, he, sd, se, q⟩ := h
  obtain ⟨as, r1⟩ := Dp.reads I d x v hd rx
  obtain ⟨bs, r2⟩ := Dp.reads I (.tuple ds) y u he ry
  exact SeqAt.in_tuple_reads r2 r1 (SeqAt.canLay_of_shaped se) (SeqAt.canLay_of_shaped sd) (room_in_shaped sd hu) ⟨.bl _, H, I, rfl, q⟩
end

/-! ### enumerate(tuple) -/
section
variable {prog : Program} {w : World} {A : Around} {E : Value → Shared → Prop} {s : Shared}
set_option maxHeartbeats 1000000 in
theorem meets_enum1 {v : Value} {o : Obj} {H : Heap → Prop} (B : Begins v o H) :
    Meets (Builtin.«enumerate.__new__» ⟨[.type "enumerate", v], []⟩) (fun _ R s => H s.heap ∧
      R (.ok (.ret (.ref (s.heap.push o).objs.size))) { s with heap := (s.heap.push o).push { cls := .type "enumerate", data := .fields #[.none, .bool false, .ref s.heap.objs.size, rawInt 0, .none, .none] } }) :=
  .of_wp fun prog w A R s h => by
    obtain ⟨hp, g, d, tk, os⟩ := s; obtain ⟨h1, h⟩ := h
    have hsub := sub_enumerate
    have q1 : ∀ {A' : Around} {E : Value → Shared → Prop} {Q : Value → Shared → Prop}, Q (.ref hp.objs.size) ⟨hp.push o, g, d, tk, os⟩ → wpAny (model prog w) A' (pyIter v) Q E ⟨hp, g, d, tk, os⟩ :=
      fun q => B.iter prog w _ _ ⟨hp, g, d, tk, os⟩ _ h1 q
    wp_walk using q1
    refine wpAny_stack_any fun st => wpAny_pure ?_
    split
    · rename_i c _ _ _ _ _
      cases (c == Value.type "enumerate")
      · wp_walk using q1
        exact ⟨_, rfl, h⟩
      · wp_walk using q1
        exact ⟨_, rfl, h⟩
    · wp_walk using q1
      exact ⟨_, rfl, h⟩
theorem enum1_begins {v : Value} {o : Obj} {H : Heap → Prop} {Q : Value → Shared → Prop} (B : Begins v o H) (h1 : H s.heap)
    (h : ∀ h', IsEnum h' (s.heap.objs.size + 1) s.heap.objs.size 0 .none → h'.get? s.heap.objs.size = some o → h'.objs.size = s.heap.objs.size + 2 →
      (∀ b o, s.heap.get? b = some o → h'.get? b = some o) → Q (.ref (s.heap.objs.size + 1)) { s with heap := h' }) :
    wpAny (model prog w) A (call (.type "enumerate") [v]) Q E s := by
  refine callType_new F.called_enumerate (by decide) (F.typeCall_enumerate_1 _) (F.newCall_enumerate_1 _) (fun obj => F.args_object_init_2 obj _) F.entry_enumerate_new
    (meets_enum1 B) ⟨h1, ?_⟩
  have hz : (s.heap.push o).objs.size = s.heap.objs.size + 1 := Heap.size_push ..
  show _ ∧ _
  rw [hz]
  have he : IsEnum ((s.heap.push o).push { cls := .type "enumerate", data := .fields #[.none, .bool false, .ref s.heap.objs.size, rawInt 0, .none, .none] }) (s.heap.objs.size + 1) s.heap.objs.size 0 .none := by
    have := Heap.get?_push_size (s.heap.push o) (o := { cls := .type "enumerate", data := .fields #[.none, .bool false, .ref s.heap.objs.size, rawInt 0, .none, .none] }) rfl
    rw [hz] at this; exact this
  refine ⟨⟨_, he, rfl⟩, h _ he (Heap.get?_push_of_some _ (Heap.get?_push_size _ B.free)) (by rw [Heap.size_push, hz]) fun b o x => Heap.get?_push_of_some _ (Heap.get?_push_of_some _ x)⟩
end

/-- the tuple at a, each item in a new pair -/
def IteT (K : PySem.W.Frag) (a : Addr) : It :=
  ⟨fun i H => ∃ (xs : List V) (x : V), SqT K H a xs ∧ xs[i]? = some x, fun i H v H' => ∃ T x, v = .ref T ∧ H T = none ∧ H' = upd H T (.tup [.int (i : Nat), x]) ∧ ∀ xs, SqT K H a xs → xs[i]? = some x, fun i H => ∃ xs : List V, SqT K H a xs ∧ xs.length = i⟩
theorem turn_enumT {P : Program} {w : World} {K : PySem.W.Frag} {elts : List Expr} {kk : Nat} {tpos : Pos} (a e it : Addr) :
    Turn P w K (.Tuple elts kk tpos) (IteT K a) [e, it] e (fun i h => (∃ old, IsEnum h e it ((i : Nat) : Int) old) ∧ h.IsTupleIter it a i ∧ e ≠ it) where
  mem := by simp
  obj := fun i h st b hb => by
    obtain ⟨⟨old, he⟩, ⟨o, ho, hc, hd⟩, _⟩ := st
    have e' : b = e ∨ b = it := by simpa using hb
    rcases e' with z | z
    · rw [z]; exact ⟨_, he, fun v q => nomatch q⟩
    · rw [z]; exact ⟨o, ho, fun v q => by rw [hd] at q; cases q⟩
  keep := fun i h h' st k => let ⟨⟨old, he⟩, hi, hne⟩ := st; ⟨⟨old, k e (by simp) _ he⟩, hi.at fun o q => k it (by simp) o q, hne⟩
  item := by
    intro X hP hw hK hc i pins s σ H E I hf st hg
    subst hP hw hK
    obtain ⟨⟨old, he⟩, hit, hne⟩ := st
    obtain ⟨xs, x, hq, hx⟩ := hg
    obtain ⟨its, rv, p, hz⟩ := I.tuple hq
    have p' : s.heap.IsTuple a its.toArray := p
    obtain ⟨u, hu, ru⟩ := rv.get hx
    have hel : e < s.heap.objs.size := Heap.lt_size he
    have hil : it < s.heap.objs.size := by obtain ⟨_, q, _⟩ := hit; exact Heap.lt_size q
    have hai : a ≠ it := fun z => by
      obtain ⟨o, ho, hc1, _⟩ := hit
      obtain ⟨o', ho', hc2, _⟩ := p'
      rw [z, ho] at ho'
      cases ho'
      rw [hc1] at hc2
      injection hc2 with hc2
      exact absurd hc2 (by decide)
    have hae : e ∉ [it, a] := fun z => by
      rcases List.mem_cons.mp z with z | z
      · exact hne z
      · have z := List.mem_singleton.mp z
        obtain ⟨o', ho', hc2, _⟩ := p'
        rw [← z, he] at ho'
        cases ho'
        injection hc2 with hc2
        exact absurd hc2 (by decide)
    have hil2 : i < its.toArray.size := by
      have := (List.getElem?_eq_some_iff.mp hu).1
      simpa using this
    refine wpAny_pyNext_enum_itemC (fp := [it, a]) (c := (i : Int)) (Draws.tuple (A := X.A.in1) (I.ok.hd hc) it a hai its.toArray) he ⟨hit, p'⟩ hil2 hne hae fun y h' tk hy ho hit' hT hsz hk => ?_
    have ey : y = u := by
      have e1 : its[i]? = some y := by simpa using hy
      rw [hu] at e1
      exact (Option.some.inj e1).symm
    subst ey
    refine ⟨_, rfl, wpAny_letOwnedTupleGo_enum (s := { s with heap := h', toks := tk + 1 }) ho fun h'' he' sb => ?_⟩
    have hT2 : h''.get? s.heap.objs.size = some { cls := .type "tuple", data := .seq #[.int i tk, y] } := (sb.2 _ (Nat.ne_of_gt hel)).trans hT
    have new : ObjOk X.prog X.w (upd H s.heap.objs.size (.tup [.int (i : Nat), x])) h'' s.heap.objs.size (.tup [.int (i : Nat), x]) :=
      ⟨by show 2 ≤ sizeLine; decide, [.int i tk, y], .cons ⟨_, rfl⟩ (.cons ru .nil), ⟨_, hT2, rfl, _, rfl⟩⟩
    have I1 : Inv X pins σ (upd H s.heap.objs.size (.tup [.int (i : Nat), x])) { s with heap := h'', toks := tk + 1 } :=
      I.turnedNew (ch := [e, it]) (fun b ob hb q => (sb.2 b (fun z => hb (by simp [z]))).trans (hk b ob (fun z => hb (by simp [z])) (fun z => hb (by simp [z])) q)) hf (Nat.le_refl _) new
    refine ⟨.ref s.heap.objs.size, _, I1, rfl, ⟨_, x, rfl, I.hok.fresh (Nat.le_refl _), rfl, fun ys hy => by rw [I.tuple_inj hy hq]; exact hx⟩, ⟨⟨y, ?_⟩, hit'.1.at fun o q => (sb.2 it (Ne.symm hne)).trans q, hne⟩, fun b hb => ?_⟩
    · have e1 : ((i + 1 : Nat) : Int) = (i : Int) + 1 := by omega
      rw [e1]; exact he'
    · have hb' : b < s.heap.objs.size := by
        have e' : b = e ∨ b = it := by simpa using hb
        rcases e' with z | z
        · rw [z]; exact hel
        · rw [z]; exact hil
      rw [upd_ne (Nat.ne_of_lt hb')]
      exact (hf b hb).1
  done := by
    intro X hP hw hK hc i pins s σ H E I hf st hg
    subst hP hw hK
    obtain ⟨⟨old, he⟩, hit, hne⟩ := st
    obtain ⟨xs, hq, hx⟩ := hg
    obtain ⟨its, rv, p, hz⟩ := I.tuple hq
    have p' : s.heap.IsTuple a its.toArray := p
    obtain ⟨f0, f1, f2, f3, f4, f5⟩ := hf it (by simp)
    have hl := rv.length
    have hai : a ≠ it := fun z => by
      obtain ⟨o, ho, hc1, _⟩ := hit
      obtain ⟨o', ho', hc2, _⟩ := p'
      rw [z, ho] at ho'
      cases ho'
      rw [hc1] at hc2
      injection hc2 with hc2
      exact absurd hc2 (by decide)
    have ei : i = its.toArray.size := by simp; omega
    subst ei
    exact wpAny_pyNext_enum_endD (fp := [it, a]) (Draws.tuple (A := X.A.in1) (I.ok.hd hc) it a hai its.toArray) he ⟨hit, p'⟩ fun h' eb => ⟨rfl, I.turned (t' := s.toks) (fun b o hb q => eb b o hb q) f0 f1 f3 f4 f5⟩
  self := fun A i s Q E st h => let ⟨⟨_, he⟩, _⟩ := st; wpAny_pyIter_enum he h
def iEnumT (K : PySem.W.Frag) (ta : TA) : TI := fun σ H R => ta σ H fun vs H1 => ∃ a xs, vs = [.ref a] ∧ SqT K H1 a xs ∧ R (IteT K a) H1
theorem pi_enumT {X : Cx} {e : Expr} {ta : TA} {p pos tpos : Pos} {elts : List Expr} {kk : Nat} (hg : Gl X "enumerate") (hm : X.mg "enumerate" = none) (ha : PA X [e] ta) (hs : starEach [e] X.env = [(false, eval e X.env)] := by rfl) :
    PI X (.Tuple elts kk tpos) (.Call (.Name "enumerate" p) [e] [] pos) (iEnumT X.K ta) := by
  refine ⟨fun pins s σ H R I h => ?_⟩
  refine Call_ (ld_blt I hg hm boot_enumerate (PyProof.Rows.callWith_type1 (thn (ha.run pos pins s σ H _ I h) fun us s1 ⟨vs, H1, I1, r1, q1⟩ => ?_) hs rfl))
  obtain ⟨a, xs, ex, hq, q⟩ := q1
  subst ex
  cases r1 with
  | cons r rr =>
    cases rr
    cases r
    obtain ⟨its, rv, p', hz⟩ := I1.tuple hq
    refine enum1_begins (begins_tuple a its.toArray) p' fun h' he hit hsz hk => wpAny_pyIter_enum he ?_
    have I2 : Inv X pins σ H1 { s1 with heap := h' } := I1.kept (t' := s1.toks) hk
    refine ⟨s1.heap.objs.size + 1, [s1.heap.objs.size + 1, s1.heap.objs.size], _, _, H1, rfl, I2, turn_enumT a (s1.heap.objs.size + 1) s1.heap.objs.size, ⟨⟨.none, he⟩, ⟨_, hit, rfl, rfl⟩, Nat.succ_ne_self _⟩, fun b hb => ?_, q⟩
    have e' : b = s1.heap.objs.size + 1 ∨ b = s1.heap.objs.size := by simpa using hb
    have hle : s1.heap.objs.size ≤ b := by
      rcases e' with z | z
      · rw [z]; exact Nat.le_add_right _ _
      · rw [z]; exact Nat.le_refl _
    exact I1.fpOk hle (I1.hok.fresh hle)

/-! ### sorted(tuple) -/
theorem reads_lt {h : Heap} {v : Value} {d : PyData} {as : List Addr} (r : Reads h v d as) : ∀ a ∈ as, a < h.objs.size := by
  refine Reads.rec (motive_1 := fun v d as _ => ∀ a ∈ as, a < h.objs.size) (motive_2 := fun vs ds as _ => ∀ a ∈ as, a < h.objs.size) ?_ ?_ ?_ ?_ ?_ ?_ ?_ ?_ ?_ r
  · intro a ha; cases ha
  · intro _ a ha; cases ha
  · intro _ _ a ha; cases ha
  · intro _ _ a ha; cases ha
  · intro b o vs n xs as h1 h2 h3 h4 ih a ha
    rcases List.mem_cons.mp ha with e | ha
    · rw [e]; exact Heap.lt_size h1
    · exact ih a ha
  · intro b o vs n xs as h1 h2 h3 h4 ih a ha
    exact ih a ha
  · intro b o es n kvs as bs h1 h2 h3 h4 h5 ih1 ih2 a ha
    rcases List.mem_append.mp ha with ha | ha
    · rcases List.mem_cons.mp ha with e | ha
      · rw [e]; exact Heap.lt_size h1
      · exact ih1 a ha
    · exact ih2 a ha
  · intro a ha; cases ha
  · intro v vs d ds as bs h1 h2 ih1 ih2 a ha
    rcases List.mem_append.mp ha with ha | ha
    · exact ih1 a ha
    · exact ih2 a ha

def rSortDT {β : Type} (K : PySem.W.Frag) (enc : β → PyData) : List V → Hp → VK → Prop := fun vs H Q => ∃ (a : Addr) (xs : List V) (bs : List β) (F : V → β → Prop), vs = [V.ref a] ∧ SqT K H a xs ∧ Paired (fun v b => F v b ∧ DpE K H enc v b) xs bs ∧
  (∀ b b', PySem.W.alike (enc b) (enc b') = true) ∧ PySem.W.Sortable (bs.map enc) ∧ (∀ b, (enc b).depth ≤ 32) ∧
  ∀ (ys : List V) (p : Addr), Paired F ys (bs.mergeSort (PySem.W.dataLe false enc)) → H p = none → Q (.ref p) (upd H p (.lst ys))
theorem cr_sortDT {X : Cx} {β : Type} (enc : β → PyData) (hc : X.calm = true) (hu : X.A.units + 64 < cLine) : CallR X (.builtin "sorted") (rSortDT X.K enc) := by
  intro pins s σ H vs us Q I r h
  obtain ⟨a, xs, bs, F, rfl, hs, hp, hal, hso, hdp, q⟩ := h
  rw [Vals.ref1 r]
  obtain ⟨its, rv, hl, hz⟩ := I.tuple hs
  have hl' : s.heap.IsTuple a its.toArray := hl
  obtain ⟨o, ho, hcl, n, hd⟩ := hl'
  have hxl := rv.length
  refine Calls.call_function_entry kind_sorted plain_sorted entry_sorted (args_sorted1 _) ?_
  unfold Builtin.«sorted»
  refine wpAny_bind (m := checkCount "sorted" 1 1 _) (wpAny_pure ?_)
  refine wpAny_bind (wpAny_collect_seq a (.inr rfl) ho hcl hd (fun h1 k1 => ?_) (by simp; omega))
  have I1 : Inv X pins σ H { s with heap := h1 } := I.kept (t' := s.toks) k1
  have hol : its.toArray.toList = its := by simp
  rw [hol]
  have hz' : its.length ≤ sizeLine := by omega
  refine wpAny_bind (wpAny_newList ?_ hz')
  have hoL : (h1.push (seqObj "list" its.toArray 0)).get? h1.objs.size = some (seqObj "list" its.toArray 0) := Heap.get?_push_size _ rfl
  have hlen : bs.length = xs.length := (Paired.length hp).symm
  have e1 := each_of rv hp
  have I2 : Inv X pins σ H { s with heap := h1.push (seqObj "list" its.toArray 0) } := I1.kept (t' := s.toks) fun b u e => Heap.get?_push_of_some _ e
  have er : PySem.W.EachIs (fun v b => ∃ as, Reads (h1.push (seqObj "list" its.toArray 0)) v (enc b) as ∧ h1.objs.size ∉ as) its bs := (each_reads I1 e1).mono fun v b ⟨as, r⟩ =>
    ⟨as, PyProof.Rows.Reads.keeps (fun _ _ e => Heap.get?_push_of_some _ e) r, fun z => Nat.lt_irrefl _ (reads_lt r _ z)⟩
  have e3 : PySem.W.EachIs (fun u b => ∃ v, F v b ∧ RelV v u ∧ Dp X.K H v (enc b)) its bs := e1
  refine wpAny_bind (wpAny_holding (PySem.W.list_sort_data (enc := enc) (s := { s with heap := h1.push (seqObj "list" its.toArray 0) }) hoL e3 er (PySem.W.AllAlike.of hal) hso (by omega) (fun b _ => by have := hdp b; show X.A.units + 1 + 1 + (enc b).depth < cLine; omega) fun out2 h2 e2 => ?_))
  obtain ⟨ys, rys, pys⟩ := of_each (F := F) (fun u b ⟨v, m, r, d⟩ => ⟨v, r, m⟩) e2
  obtain ⟨c, hc2⟩ := sortedHeap_at (vs := its) (out := out2.toArray) hoL
  have hold : ∀ b u, h1.get? b = some u → (sortedHeap (h1.push (seqObj "list" its.toArray 0)) h1.objs.size its out2.toArray).get? b = some u := fun b u e => by
    have lt := Heap.lt_size e
    exact (sortedHeap_old (Nat.ne_of_lt lt) (by rw [Heap.size_push]; exact Nat.lt_succ_of_lt lt)).trans (Heap.get?_push_of_some _ e)
  have hly : ys.length ≤ sizeLine := by rw [rys.length, h2, hlen]; omega
  refine wpAny_pure ⟨_, rfl, .ref h1.objs.size, upd H h1.objs.size (.lst ys), I1.laid (t' := s.toks) hold (Nat.le_refl _) ⟨hly, out2, c, rys, hc2⟩, rfl, q ys _ pys (I1.hok.fresh (Nat.le_refl _))⟩
end WW

set_option Elab.async false
set_option linter.all false
set_option maxRecDepth 100000
/-! Rules at a fragment that is told (for blocks of comprehensions). -/
namespace WW
open PySem PySem.Spec PyProof.Rows L2
def rTupOf (K : PySem.W.Frag) : List V → Hp → VK → Prop := fun xs H Q => ∃ p ys, xs = [.ref p] ∧ ((SqL K H p ys ∧ ∀ l, H l = none → Q (.ref l) (upd H l (.tup ys))) ∨ (SqT K H p ys ∧ Q (.ref p) H))
def rListOf (K : PySem.W.Frag) : List V → Hp → VK → Prop := fun xs H Q => ∃ p ys, xs = [.ref p] ∧ (SqL K H p ys ∨ SqT K H p ys) ∧ ∀ l, H l = none → Q (.ref l) (upd H l (.lst ys))
section
variable {X : Cx} {K : PySem.W.Frag}
theorem ixK (h : X.K = K) : IxR X (rIx K) := h ▸ ix_seq
theorem inK (h : X.K = K) : OpR X (compareOp .In) (rIn K false) := h ▸ op_in_seq
theorem notInK (h : X.K = K) : OpR X (compareOp .NotIn) (rIn K true) := h ▸ op_notIn_seq
theorem lenK (h : X.K = K) : CallR X (.builtin "len") (rLen K) := h ▸ (call_len : CallR X _ (rLen X.K))
theorem isiK (h : X.K = K) : CallR X (.builtin "isinstance") (rIsi K) := h ▸ call_isi
theorem tupOfK (h : X.K = K) : CallR X (.type "tuple") (rTupOf K) := h ▸ (call_tuple_of : CallR X _ (rTupOf X.K))
theorem listOfK (h : X.K = K) : CallR X (.type "list") (rListOf K) := h ▸ (call_list_of : CallR X _ (rListOf X.K))
theorem eqDK (h : X.K = K) (hu : X.A.units + 64 < cLine) : OpR X (compareOp .Eq) (rEqD K) := h ▸ op_eqD hu
theorem room65 {k : Nat} {A : Around} (r : Room k A) : A.units + 65 < cLine := by have := r.un; omega
end
end WW

set_option Elab.async false
set_option linter.all false
set_option maxRecDepth 100000
set_option maxHeartbeats 4000000
/-! Loops and comprehensions over anything that stays. -/
namespace WW
open PySem PySem.Spec PyProof.Rows L2 Evl
/-- whatever is laid behind H, the iterator gives xs -/
structure Steady (J : It) (H : Hp) (xs : List V) : Prop where
  go : ∀ i H', Ex H H' → i < xs.length → J.go i H'
  yld : ∀ i H' x H'', Ex H H' → i < xs.length → J.yld i H' x H'' → H'' = H' ∧ xs[i]? = some x
  stop : ∀ H', Ex H H' → J.stop xs.length H'
section
variable {K : PySem.W.Frag} {H : Hp} {a : Addr} {xs : List V}
theorem st_l (h : SqL K H a xs) : Steady (Itl K a) H xs where
  go := fun i H' e hi => ⟨xs, xs[i], ex_l e h, List.getElem?_eq_getElem hi⟩
  yld := fun i H' x H'' e _ y => ⟨y.1, y.2 xs (ex_l e h)⟩
  stop := fun H' e => ⟨xs, ex_l e h, Nat.le_refl _⟩
theorem st_t (h : SqT K H a xs) : Steady (Itt K a) H xs where
  go := fun i H' e hi => ⟨xs, xs[i], ex_t e h, List.getElem?_eq_getElem hi⟩
  yld := fun i H' x H'' e _ y => ⟨y.1, y.2 xs (ex_t e h)⟩
  stop := fun H' e => ⟨xs, ex_t e h, Nat.le_refl _⟩
def chs (z : Str) : List V := z.cps.toList.map fun c => V.str ⟨#[c]⟩
theorem chs_len (z : Str) : (chs z).length = z.length := by unfold chs; rw [List.length_map, Array.length_toList]; rfl
theorem st_s {z : Str} : Steady (Its z) H (chs z) where
  go := fun i H' e hi => by
    have h2 : (chs z).length = z.cps.size := by unfold chs; simp
    show i < z.cps.size
    omega
  yld := fun i H' x H'' e hi y => by
    obtain ⟨e1, c, hc, rfl⟩ := y
    refine ⟨e1, ?_⟩
    unfold chs
    rw [List.getElem?_map]
    have e2 : z.cps.toList[i]? = some c := by simpa using hc
    rw [e2]
    rfl
  stop := fun H' e => by
    show z.cps.size ≤ (chs z).length
    unfold chs
    simp
theorem st_r {lo : Int} {n : Nat} : Steady (Itr lo n) H ((List.range n).map fun (i : Nat) => V.int (lo + (i : Int))) where
  go := fun i H' e hi => by
    show i < n
    simpa using hi
  yld := fun i H' x H'' e hi y => by
    obtain ⟨e1, rfl⟩ := y
    refine ⟨e1, ?_⟩
    have hi2 : i < n := by simpa using hi
    rw [List.getElem?_map, List.getElem?_range hi2]
    rfl
  stop := fun H' e => by
    show n ≤ _
    simp
end
section
variable {J : It} {H : Hp} {xs : List V} {D : Addr} {σ : L2.St} {vs : List Nat} {j : Nat} {tt : TT} {te : TE} {f : V → Bool} {v : V → V} {Q : Hp → Prop}
theorem take_snoc {α : Type} {l : List α} {i : Nat} {x : α} (h : l[i]? = some x) : l.take (i + 1) = l.take i ++ [x] := by
  rw [List.take_add_one, h]
  rfl
theorem lc_ev (S : Steady J H xs) (hz : xs.length < 100000) (hw : ∀ x, wipe ((wipe σ vs).set j (some x)) vs = wipe σ vs) (hD : H D = none)
    (ht : ∀ x ∈ xs, EvT tt ((wipe σ vs).set j (some x)) H (f x)) (he : ∀ x ∈ xs, f x = true → Ev te ((wipe σ vs).set j (some x)) H (v x))
    (q : ∀ H', Ex H H' → H' D = some (.lst ((xs.filter f).map v)) → Q H') :
    ∃ W : Nat → Nat → Hp → Prop, (∃ m, W 0 m (upd H D (.lst []))) ∧ ∀ i m H, W i m H →
      (J.stop i H ∧ Q H) ∨ (J.go i H ∧ ∃ Nx : Hp → Prop, (∀ H', Nx H' → ∃ m', m' < m ∧ W (i + 1) m' H') ∧ ∀ x H', J.yld i H x H' → gName j x (wipe σ vs) H' fun σ2 H2 => wipe σ2 vs = wipe σ vs ∧ tt σ2 H2 fun b H3 =>
        if b = true then te σ2 H3 fun y H4 => ∃ acc, H4 D = some (.lst acc) ∧ acc.length < sizeLine ∧ Nx (upd H4 D (.lst (acc ++ [y]))) else Nx H3) := by
  refine ⟨fun i m H' => m = xs.length - i ∧ i ≤ xs.length ∧ Ex H H' ∧ H' D = some (.lst (((xs.take i).filter f).map v)), ⟨xs.length, by simp, Nat.zero_le _, Ex.new hD, upd_same⟩, ?_⟩
  rintro i m H' ⟨rfl, hi, e, hd⟩
  by_cases hlt : i < xs.length
  · refine .inr ⟨S.go i H' e hlt, fun H' => Ex H H' ∧ H' D = some (.lst (((xs.take (i + 1)).filter f).map v)), fun H'' p' => ⟨xs.length - (i + 1), by omega, rfl, hlt, p'⟩, fun x H'' y => ?_⟩
    obtain ⟨e1, hx⟩ := S.yld i H' x H'' e hlt y
    subst e1
    have mx : x ∈ xs := List.mem_of_getElem? hx
    refine ⟨hw x, ht x mx _ e _ fun H2 e2 => ?_⟩
    rw [take_snoc hx]
    cases hf : f x with
    | true =>
      refine he x mx hf H2 (e.trans e2) _ fun H3 e3 => ⟨_, e3 _ _ (e2 _ _ hd), ?_, (e.trans e2 |>.trans e3).mut hD, ?_⟩
      · have h1 := List.length_filter_le f (xs.take i)
        rw [List.length_map]
        have h2 : (xs.take i).length ≤ xs.length := by rw [List.length_take]; omega
        exact sz_lt (by omega)
      · rw [upd_same, List.filter_append, List.map_append]
        simp [hf]
    | false =>
      refine ⟨e.trans e2, ?_⟩
      rw [e2 _ _ hd, List.filter_append]
      simp [hf]
  · have e1 : i = xs.length := by omega
    subst e1
    rw [List.take_length] at hd
    exact .inl ⟨S.stop H' e, q H' e hd⟩
/-- {e for x in ..} of texts -/
theorem set_ev {P : Program} {w : World} {u : V → Str} (S : Steady J H xs) (hz : xs.length < 1000) (hw : ∀ x, wipe ((wipe σ vs).set j (some x)) vs = wipe σ vs) (hD : H D = none)
    (he : ∀ x ∈ xs, Ev te ((wipe σ vs).set j (some x)) H (.str (u x)))
    (q : ∀ H' ks, Ex H H' → ks.Nodup → (∀ k, k ∈ ks ↔ k ∈ xs.map u) → H' D = some (SSO P w D ks) → Q H') :
    ∃ W : Nat → Nat → Hp → Prop, (∃ m, W 0 m (upd H D (SSO P w D []))) ∧ ∀ i m H2, W i m H2 → (J.stop i H2 ∧ Q H2) ∨
    (J.go i H2 ∧ ∃ Nx : Hp → Prop, (∀ H', Nx H' → ∃ m', m' < m ∧ W (i + 1) m' H') ∧ ∀ x H', J.yld i H2 x H' → gName j x (wipe σ vs) H' fun σ3 H3 => wipe σ3 vs = wipe σ vs ∧
      tYes σ3 H3 fun b H4 => if b = true then te σ3 H4 fun y H5 => addS P w y D H5 Nx else Nx H4) := by
  refine ⟨fun i m H' => m = xs.length - i ∧ i ≤ xs.length ∧ Ex H H' ∧ ∃ ks, ks.Nodup ∧ ks.length ≤ i ∧ (∀ k, k ∈ ks ↔ k ∈ (xs.take i).map u) ∧ H' D = some (SSO P w D ks), ⟨xs.length, by simp, Nat.zero_le _, Ex.new hD, [], List.nodup_nil, Nat.le_refl _, by simp, upd_same⟩, ?_⟩
  rintro i m H' ⟨rfl, hi, e, ks, nd, hl, hm, hd⟩
  by_cases hlt : i < xs.length
  · refine .inr ⟨S.go i H' e hlt, fun H' => Ex H H' ∧ ∃ ks, ks.Nodup ∧ ks.length ≤ i + 1 ∧ (∀ k, k ∈ ks ↔ k ∈ (xs.take (i + 1)).map u) ∧ H' D = some (SSO P w D ks), fun H'' p' => ⟨xs.length - (i + 1), by omega, rfl, hlt, p'⟩, fun x H'' y => ?_⟩
    obtain ⟨e1, hx⟩ := S.yld i H' x H'' e hlt y
    subst e1
    have mx : x ∈ xs := List.mem_of_getElem? hx
    refine ⟨hw x, ?_⟩
    unfold tYes
    refine he x mx _ e _ fun H3 e3 => ?_
    refine ⟨u x, ks, rfl, e3 _ _ hd, ?_, fun ks' ad => ⟨(e.trans e3).mut hD, ks', ?_, ?_, ?_, upd_same⟩⟩
    · have : (1002 : Nat) ≤ scanBound := by decide
      omega
    · rcases ad with ⟨_, rfl⟩ | ⟨n, p⟩
      · exact nd
      · exact p.nodup_iff.mpr (List.nodup_cons.mpr ⟨n, nd⟩)
    · rcases ad with ⟨_, rfl⟩ | ⟨n, p⟩
      · omega
      · rw [p.length_eq, List.length_cons]; omega
    · intro k
      rw [take_snoc hx, List.map_append, List.mem_append, ← hm k]
      rcases ad with ⟨m, rfl⟩ | ⟨n, p⟩
      · constructor
        · exact fun z => .inl z
        · rintro (z | z)
          · exact z
          · simp at z; rw [z]; exact m
      · rw [p.mem_iff, List.mem_cons]
        constructor
        · rintro (z | z)
          · exact .inr (by simp [z])
          · exact .inl z
        · rintro (z | z)
          · exact .inr z
          · simp at z
            exact .inl z
  · have e1 : i = xs.length := by omega
    subst e1
    rw [List.take_length] at hm
    exact .inl ⟨S.stop H' e, q H' ks e nd hm hd⟩
end
/-- any for loop of n turns -/
theorem for_go {J : It} {n : Nat} {g : TG} {tb : TS} {D : Ends} {σ : L2.St} {H : Hp} (Pv : Nat → L2.St → Hp → Prop) (h0 : Pv 0 σ H) (hgo : ∀ i σ H, i < n → Pv i σ H → J.go i H) (hst : ∀ σ H, Pv n σ H → J.stop n H)
    (hs : ∀ i σ H x H', i < n → Pv i σ H → J.yld i H x H' → g x σ H' fun σ2 H2 => tb { D with nx := Pv (i + 1), ct := Pv (i + 1), bk := D.nx } σ2 H2) (hd : ∀ σ H, Pv n σ H → D.nx σ H) :
    ∃ W : Nat → Nat → L2.St → Hp → Prop, (∃ m, W 0 m σ H) ∧ ∀ i m σ H, W i m σ H →
      (J.stop i H ∧ D.nx σ H) ∨ (J.go i H ∧ ∃ N : L2.St → Hp → Prop, (∀ σ' H', N σ' H' → ∃ m', m' < m ∧ W (i + 1) m' σ' H') ∧ ∀ x H', J.yld i H x H' → g x σ H' fun σ2 H2 => tb { D with nx := N, ct := N, bk := D.nx } σ2 H2) := by
  refine ⟨fun i m σ H => m = n - i ∧ i ≤ n ∧ Pv i σ H, ⟨n, by simp, Nat.zero_le _, h0⟩, ?_⟩
  rintro i m σ H ⟨rfl, hi, p⟩
  by_cases hlt : i < n
  · refine .inr ⟨hgo i σ H hlt p, Pv (i + 1), fun σ' H' p' => ⟨n - (i + 1), by omega, rfl, hlt, p'⟩, fun x H' y => hs i σ H x H' hlt p y⟩
  · have e : i = n := by omega
    subst e
    exact .inl ⟨hst σ H p, hd σ H p⟩
end WW
namespace WW
open PySem PySem.Spec PyProof.Rows L2 Evl
/-- whatever is laid behind H, enumerate gives xs -/
structure EnumS (J : It) (H : Hp) (xs : List V) : Prop where
  go : ∀ i H', Ex H H' → i < xs.length → J.go i H'
  yld : ∀ i H' v H'', Ex H H' → i < xs.length → J.yld i H' v H'' → ∃ T x, v = .ref T ∧ H' T = none ∧ H'' = upd H' T (.tup [.int (i : Nat), x]) ∧ xs[i]? = some x
  stop : ∀ H', Ex H H' → J.stop xs.length H'
section
variable {K : PySem.W.Frag} {H : Hp} {a : Addr} {xs : List V}
theorem en_l (h : SqL K H a xs) : EnumS (Ite K a) H xs where
  go := fun i H' e hi => ⟨xs, xs[i], ex_l e h, List.getElem?_eq_getElem hi⟩
  yld := fun i H' v H'' e _ ⟨T, x, e1, e2, e3, e4⟩ => ⟨T, x, e1, e2, e3, e4 xs (ex_l e h)⟩
  stop := fun H' e => ⟨xs, ex_l e h, Nat.le_refl _⟩
theorem en_t (h : SqT K H a xs) : EnumS (IteT K a) H xs where
  go := fun i H' e hi => ⟨xs, xs[i], ex_t e h, List.getElem?_eq_getElem hi⟩
  yld := fun i H' v H'' e _ ⟨T, x, e1, e2, e3, e4⟩ => ⟨T, x, e1, e2, e3, e4 xs (ex_t e h)⟩
  stop := fun H' e => ⟨xs, ex_t e h, rfl⟩
/-- a list or a tuple -/
def SqX (H : Hp) (a : Addr) (xs : List V) : Prop := H a = some (.lst xs) ∨ H a = some (.tup xs)
theorem SqX.ex {H H' : Hp} (e : Ex H H') (h : SqX H a xs) : SqX H' a xs := h.imp (e _ _) (e _ _)
theorem ienum_go {σ : L2.St} {i : Nat} {R : It → Hp → Prop} (h : σ[i]? = some (some (.ref a))) (hx : SqX H a xs) (k : ∀ J, EnumS J H xs → R J H) : iOr (iEnum K (tCons (tVar i) tNil)) (iEnumT K (tCons (tVar i) tNil)) σ H R := by
  rcases hx with hx | hx
  · exact .inl ⟨_, h, a, xs, rfl, sq_of hx, k _ (en_l (sq_of hx))⟩
  · exact .inr ⟨_, h, a, xs, rfl, st_of hx, k _ (en_t (st_of hx))⟩
theorem iseq_go {σ : L2.St} {i : Nat} {R : It → Hp → Prop} (h : σ[i]? = some (some (.ref a))) (hx : SqX H a xs) (k : ∀ J, Steady J H xs → R J H) : iOr (iList K (tVar i)) (iTup K (tVar i)) σ H R := by
  rcases hx with hx | hx
  · exact .inl ⟨_, h, a, rfl, ⟨xs, sq_of hx⟩, k _ (st_l (sq_of hx))⟩
  · exact .inr ⟨_, h, a, rfl, ⟨xs, st_of hx⟩, k _ (st_t (st_of hx))⟩
theorem cut_take (xs : List V) (i : Nat) : cutV xs none (some (i : Int)) = xs.take i := by
  unfold cutV
  rw [HT.sIx_none, HT.sIx_nat]
  simp
theorem cut_drop (xs : List V) (i : Nat) : cutV xs (some (i : Int)) none = xs.drop i := by
  unfold cutV
  rw [HT.sIx_none, HT.sIx_nat]
  rcases Nat.le_total i xs.length with h | h
  · rw [Nat.min_eq_left h, List.take_of_length_le (by rw [List.length_drop]; omega)]
  · rw [Nat.min_eq_right h, List.drop_of_length_le h]
    simp
/-- xs[:i] -/
theorem slx_take {i : Nat} {Q : VK} (hx : SqX H a xs) (hi : i ≤ xs.length) (k : ∀ p H', Ex H H' → SqX H' p (xs.take i) → Q (.ref p) H') : rSlL K (.ref a) none (some (i : Int)) H Q ∨ rSlA K (.ref a) none (some (i : Int)) H Q := by
  rcases hx with hx | hx
  · exact .inl ⟨a, xs, rfl, sq_of hx, fun p hp => k p _ (Ex.new hp) (by rw [cut_take]; exact .inl upd_same)⟩
  · refine .inr ⟨a, xs, rfl, st_of hx, fun ⟨_, h2⟩ => k a H (Ex.refl _) (.inr ?_), fun _ p hp => k p _ (Ex.new hp) (by rw [cut_take]; exact .inr upd_same)⟩
    rw [HT.sIx_nat] at h2
    have e : xs.take i = xs := List.take_of_length_le (by omega)
    rw [e]
    exact hx
theorem tupof_go {Q : VK} (hx : SqX H a xs) (k : ∀ tp H', Ex H H' → H' tp = some (.tup xs) → Q (.ref tp) H') : rTupOf K [.ref a] H Q := by
  rcases hx with hx | hx
  · exact ⟨a, xs, rfl, .inl ⟨sq_of hx, fun l hl => k l _ (Ex.new hl) upd_same⟩⟩
  · exact ⟨a, xs, rfl, .inr ⟨st_of hx, k a H (Ex.refl _) hx⟩⟩
theorem listof_go {Q : VK} (hx : SqX H a xs) (k : ∀ l H', Ex H H' → H l = none → H' l = some (.lst xs) → Q (.ref l) H') : rListOf K [.ref a] H Q :=
  ⟨a, xs, rfl, hx.imp sq_of st_of, fun l hl => k l _ (Ex.new hl) hl upd_same⟩
theorem putF_le {f : Str} {y : V} : ∀ fs : List (Str × V), (putF f y fs).length ≤ fs.length + 1
  | [] => by show 1 ≤ 1; omega
  | (g, z) :: r => by
    have ih := putF_le (f := f) (y := y) r
    unfold putF
    split
    · simp
    · simp; omega
end
end WW

set_option Elab.async false
set_option linter.all false
set_option maxRecDepth 100000
set_option maxHeartbeats 4000000
/-! set(xs), xs a list of texts. -/
namespace WW
open PySem PySem.Spec PyProof.Rows L2

section
variable {P : Program} {w : World} {κ : Type} [DecidableEq κ] {knd : PySem.KeyKind P w κ} {A : Around} {E : Value → Shared → Prop} {s : Shared}
theorem added_take {xs ks ks' : List κ} {i : Nat} {x : κ} (hx : xs[i]? = some x) (m : ∀ k, k ∈ ks ↔ k ∈ xs.take i) (l : ks.length ≤ i) (h : Added ks x ks') : ks'.length ≤ i + 1 ∧ ∀ k, k ∈ ks' ↔ k ∈ xs.take (i + 1) := by
  have et : xs.take (i + 1) = xs.take i ++ [x] := by rw [List.take_add_one, hx]; rfl
  rcases h with ⟨h1, rfl⟩ | ⟨h1, h2⟩
  · refine ⟨by omega, fun k => ?_⟩
    rw [et, List.mem_append, List.mem_singleton, ← m k]
    exact ⟨.inl, fun z => z.elim id fun e => e ▸ h1⟩
  · refine ⟨by rw [h2.length_eq, List.length_cons]; omega, fun k => ?_⟩
    rw [et, List.mem_append, List.mem_singleton, ← m k, h2.mem_iff, List.mem_cons]
    exact ⟨fun z => z.elim .inr .inl, fun z => z.elim .inr .inl⟩
/-- the walk of set(..) over things that are keys -/
theorem setw_loop {I : Addr} {fp wr : List Addr} {G : Array GenState → Array GenState → Prop} {n : Nat} {Pv : Nat → Value → Prop} {St : Nat → Shared → Prop} {R : Result → Shared → Prop}
    (W : WalksS P w A.in1 I fp wr G n Pv St) (S : Addr) (away : S ∉ fp) (xs : List κ) (hn : xs.length = n) (hb : n + 1 < scanBound) (val : ∀ i v, Pv i v → ∃ x, xs[i]? = some x ∧ knd.is x v = true ∧ v.scannable = true) :
    ∀ (k i : Nat) (s : Shared) (ks : List κ), n - i = k → i ≤ n → St i s → SetW knd s.heap S ks → ks.length ≤ i → (∀ x, x ∈ ks ↔ x ∈ xs.take i) →
      (∀ s' ls, Moved (S :: wr) G s s' → SetW knd s'.heap S ls → (∀ x, x ∈ ls ↔ x ∈ xs) → R (.ok (.ret .none)) s') → codeAny (model P w) A (.builtin "set.update.loop" ⟨[.ref S, .ref I], []⟩) R s := by
  have off : S ∉ wr := fun z => away (W.sub S z)
  have more : ∀ b ∈ wr, b ∈ S :: wr := fun b z => List.mem_cons_of_mem S z
  intro k
  induction k with
  | zero =>
    intro i s ks hk hi st hS hl hm fin
    obtain rfl : i = n := by omega
    refine codeAny_builtin F.entry_set_update_loop ?_; rw [Around.under_plainId F.plain_set_update_loop _]
    show wpAny _ A.in1 (pyNext (Value.ref I) >>= _) _ _ s
    refine wpAny_bind (W.done s _ _ st fun s1 mv => ?_); show wpAny _ A.in1 (ret Value.none) _ _ s1
    exact wpAny_pure (fin s1 ks (mv.mono more) (hS.here fun o e => mv.heap S o off e) fun x => by rw [hm x, ← hn, List.take_length])
  | succ k ih =>
    intro i s ks hk hi st hS hl hm fin
    have lt : i < n := by omega
    refine codeAny_builtin F.entry_set_update_loop ?_; rw [Around.under_plainId F.plain_set_update_loop _]
    show wpAny _ A.in1 (pyNext (Value.ref I) >>= _) _ _ s
    refine wpAny_bind (W.item i s _ _ lt st fun v s1 hv st1 mv => ?_)
    obtain ⟨x, hx, k1, k2⟩ := val i v hv
    have S1 : SetW knd s1.heap S ks := hS.here fun o e => mv.heap S o off e
    show wpAny _ A.in1 (holding [v] (setAdd S v) >>= _) _ _ s1
    refine wpAny_bind (wpAny_holding ?_); unfold setAdd
    refine wpAny_holding (wpAny_bind (knd.pyHash k1 ?_))
    refine setw_addHashed (s := { s1 with toks := s1.toks + 1 }) k1 k2 S1 (by omega) fun b h' ks' sb S2 ad => ?_
    obtain ⟨l2, m2⟩ := added_take hx hm hl ad
    refine wpAny_pure ⟨plainId_quiet F.plain_set_update_loop _, ih (i + 1) _ ks' (by omega) lt (W.frame _ s1 _ _ st1 (Nat.le_succ _) fun c hc o e => ?_) S2 l2 m2 fun s2 ls mv2 S3 m3 => ?_⟩
    · exact (sb.2 c (fun z : c = S => away (z ▸ hc))).trans e
    · refine fin s2 ls (Moved.trans W.gtrans ((mv.mono more).then_heap (Nat.le_succ _) fun c o hc e => ?_) mv2) S3 m3
      exact (sb.2 c (fun z : c = S => hc (z ▸ List.mem_cons_self))).trans e
end

section
variable {P : Program} {w : World} {κ : Type} [DecidableEq κ] {knd : PySem.KeyKind P w κ} {A : Around} {E : Value → Shared → Prop} {s : Shared}
/-- a set object with nothing in it -/
abbrev noneIn (w : World) : Obj := { cls := .type "set", dict := none, data := .set #[] 0 (.fresh 0 0 (!w.params.followText "set-order")) }
theorem setw_none {h : Heap} {a : Addr} (e : h.get? a = some (noneIn w)) : SetW knd h a [] :=
  ⟨_, #[], 0, _, e, ⟨rfl, rfl, rfl⟩, rfl, List.nodup_nil, .nil, (by decide), (by rfl), List.Pairwise.nil, by
    show _ ∨ (!w.params.followText "set-order") = true
    cases w.params.followText "set-order" <;> simp⟩
theorem setw_of_list {l : Addr} {items : Array Value} (xs : List κ) {Q : Value → Shared → Prop} (hh : A.handled = none) (hl : s.heap.IsList l items) (hn : xs.length = items.size) (hb : items.size + 1 < scanBound)
    (hit : ∀ (i : Nat) v, items[i]? = some v → ∃ x, xs[i]? = some x ∧ knd.is x v = true ∧ v.scannable = true)
    (q : ∀ (h' : Heap) (tk : Nat) ks, SetW knd h' s.heap.objs.size ks → (∀ x, x ∈ ks ↔ x ∈ xs) → (∀ b o, s.heap.get? b = some o → h'.get? b = some o) → Q (.ref s.heap.objs.size) { s with heap := h', toks := tk }) :
    wpAny (model P w) A (call (.type "set") [.ref l]) Q E s := by
  obtain ⟨cc, cr, mro⟩ := F.called_set.mro
  have mde := F.called_set.made; have sbb := F.called_set.sub
  refine wpAny_call (codeAny_of_tree ?_); show wpAny _ _ (callAny (Value.type "set") _) _ _ _
  refine wpAny_pure ⟨Code.quiet_builtin _ (by decide +kernel), codeAny_builtin F.entry_type_call ?_⟩; rw [Around.under_plain (weight_type_call_type "set" [Value.ref l] []) rfl]
  have nty := F.called_set.notType; have ccr := F.called_set.canCreate
  have tcl := F.typeCall_set_1 (Value.ref l)
  repeat (any_goals (first | wp_step | assumption))
  refine codeAny_mono (code_set_led1 (Value.ref l) (E := E) (Q₁ := fun ob s1 => ob = .ref s.heap.objs.size ∧ s1 = { s with heap := s.heap.push (noneIn w) }) ⟨rfl, rfl⟩) fun r s1 hr => ?_
  cases r with
  | error e => exact hr
  | ok fl =>
    cases fl with
    | ret ob =>
      obtain ⟨rfl, rfl⟩ := hr
      have at1 : (s.heap.push (noneIn w)).get? s.heap.objs.size = some (noneIn w) := Heap.get?_push_size _ rfl
      have ty1 : Shared.TypeIs { s with heap := s.heap.push (noneIn w) } (.ref s.heap.objs.size) "set" := ⟨_, at1, rfl⟩
      have ilk := F.called_set.init.lookup; have ibd := F.called_set.init.bind (.ref s.heap.objs.size)
      repeat (any_goals (first | wp_step | assumption))
      refine codeAny_mono (codeAny_call_builtin (R := wants (fun r s2 => r = .none ∧ ∃ h' tk ks, s2 = { s with heap := h', toks := tk } ∧ SetW knd h' s.heap.objs.size ks ∧ (∀ x, x ∈ ks ↔ x ∈ xs) ∧ ∀ b o, s.heap.get? b = some o → h'.get? b = some o) E) F.called_set.init.plain F.entry_set_init (check_set_init_1 ty1 ?_)) fun r2 s2 hr2 => ?_
      · obtain ⟨⟨cl1, dc1, da1, sl1⟩, ho1, hc1, nn1, hd1⟩ := hl
        simp only at hc1 hd1; subst hc1; subst hd1
        have ho2 : (s.heap.push (noneIn w)).get? l = some { cls := .type "list", dict := dc1, data := .seq items nn1, slots := sl1 } := Heap.get?_push_of_some _ ho1
        have nls := F.sub_list_set; have nlf := F.sub_list_frozenset
        have nld : (Value.type "list" == Value.type "dict") = false := by decide
        have il1 : (s.heap.push (noneIn w)).IsList l items := ⟨_, ho2, rfl, nn1, rfl⟩
        unfold Builtin.«set.__init__» noKeywords Builtin.Frozenset.updateFrom; generalize hgen : pyIter = itf
        wp_walk
        subst hgen
        refine wpAny_pyIter_list il1 (wpAny_bind (wpAny_runValue ?_))
        have ls : l < s.heap.objs.size := Heap.lt_size ho1
        have sz1 : (s.heap.push (noneIn w)).objs.size = s.heap.objs.size + 1 := Heap.size_push ..
        have han : A.in1.in1.in1.handled = none := by simp only [hh, Around.in1]
        have ne1 : l ≠ (s.heap.push (noneIn w)).objs.size := by rw [sz1]; exact Nat.ne_of_lt (Nat.lt_succ_of_lt ls)
        have away : s.heap.objs.size ∉ [(s.heap.push (noneIn w)).objs.size, l] := by
          rw [sz1]
          intro z
          rcases List.mem_cons.mp z with z | z
          · exact Nat.ne_of_lt (Nat.lt_succ_self _) z
          · exact Nat.ne_of_gt ls (List.mem_singleton.mp z)
        refine setw_loop (knd := knd) ((Walks.list han _ l ne1 items).toS) s.heap.objs.size away xs hn hb hit (items.size - 0) 0 _ [] (by omega) (Nat.zero_le _) ⟨⟨_, Heap.get?_push_size _ rfl, rfl, rfl⟩, (il1.push _)⟩
          (setw_none (Heap.get?_push_of_some _ at1)) (Nat.le_refl 0) (fun x => by simp) fun s3 ks mv S3 m3 => ?_
        obtain ⟨h3, g3, d3, t3, o3⟩ := s3
        obtain rfl : g3 = s.gens := mv.gens
        obtain rfl : d3 = s.drawn := mv.drawn
        obtain rfl : o3 = s.os := mv.os
        show wpAny _ _ _ _ _ _
        refine wpAny_pure ?_; show wpAny _ _ (ret Value.none) _ _ _
        refine wpAny_pure ⟨rfl, h3, t3, ks, rfl, S3, m3, fun b o e => mv.heap b o (fun z => ?_) (Heap.get?_push_of_some _ (Heap.get?_push_of_some _ e))⟩
        have lb := Heap.lt_size e
        rcases List.mem_cons.mp z with z | z
        · exact Nat.ne_of_lt lb z
        · have z2 := List.mem_singleton.mp z
          rw [sz1] at z2
          exact Nat.ne_of_lt (Nat.lt_succ_of_lt lb) z2
      · cases r2 with
        | error e => exact hr2
        | ok fl2 =>
          cases fl2 with
          | ret r =>
            obtain ⟨rfl, h3, t3, ks, rfl, S3, m3, k3⟩ := hr2
            repeat (any_goals (first | wp_step | assumption))
            exact q h3 t3 ks S3 m3 k3
          | _ => exact hr2.elim
    | _ => exact hr.elim
end
section
variable {X : Cx}
/-- set(xs), xs a list of texts -/
def rSetOfS (K : PySem.W.Frag) (P : Program) (w : World) : List V → Hp → VK → Prop := fun vs H Q => ∃ (l : Addr) (zs : List Str), vs = [V.ref l] ∧ SqL K H l (zs.map V.str) ∧ zs.length + 1 < scanBound ∧
  ∀ a ks, H a = none → ks.Nodup → (∀ x, x ∈ ks ↔ x ∈ zs) → Q (.ref a) (upd H a (SSO P w a ks))
theorem cr_setOfS (hc : X.calm = true) : CallR X (.type "set") (rSetOfS X.K X.prog X.w) := by
  intro pins s σ H xs us Q I r h
  obtain ⟨l, zs, rfl, hl, hb, q⟩ := h
  rw [Vals.ref1 r]
  obtain ⟨its, rv, pl, hz⟩ := I.list hl
  have free : H s.heap.objs.size = none := I.hok.fresh (Nat.le_refl _)
  have le : zs.length = its.toArray.size := by rw [List.size_toArray, ← rv.length, List.length_map]
  have sa : StrsAre its zs := by
    clear pl hl hz le q hb
    induction zs generalizing its with
    | nil => cases rv; exact .nil
    | cons z zs ih =>
      cases rv with
      | cons r1 r2 =>
        obtain ⟨t, rfl⟩ := r1
        exact .cons z t (ih _ r2)
  refine setw_of_list (knd := PySem.strKind X.prog X.w) zs (I.ok.hd hc) pl.isList le (by rw [← le]; exact hb) (fun i v hv => ?_) fun h' tk ks R m k => ?_
  · have hv2 : its[i]? = some v := by simpa using hv
    have li : i < zs.length := by
      have := (List.getElem?_eq_some_iff.mp hv2).1
      rw [le, List.size_toArray]
      exact this
    obtain ⟨t, rfl⟩ := SS.strs_at sa i v hv2
    refine ⟨zs.getD i Str.empty, ?_, strKind_is _ _ _ _, rfl⟩
    rw [List.getD_eq_getElem?_getD, List.getElem?_eq_getElem li]
    rfl
  · have nd : ks.Nodup := by
      obtain ⟨_, _, _, _, _, _, _, nd, _⟩ := R
      exact nd
    exact ⟨.ref s.heap.objs.size, upd H s.heap.objs.size (SSO X.prog X.w s.heap.objs.size ks), I.laid (t' := tk) k (Nat.le_refl _) (sso_new R), rfl, q _ ks free nd m⟩
end
end WW

set_option Elab.async false
set_option linter.all false
set_option maxRecDepth 100000
set_option maxHeartbeats 4000000
/-! Plain values of any kind, and what isinstance says of them. -/
namespace WW
open PySem PySem.Spec PyProof.Rows L2 Evl
inductive Pl (H : Hp) : V → Prop
  | non : Pl H .non
  | bl (b : Bool) : Pl H (.bl b)
  | int (i : Int) : Pl H (.int i)
  | str (z : Str) : Pl H (.str z)
  | lst {a : Addr} {xs : List V} (h : H a = some (.lst xs)) : Pl H (.ref a)
  | tup {a : Addr} {xs : List V} (h : H a = some (.tup xs)) : Pl H (.ref a)
  | dct {a : Addr} {kvs : List (Key × V)} (h : H a = some (.dK kvs)) : Pl H (.ref a)
def isI : V → Bool | .int _ => true | _ => false
def isB : V → Bool | .bl _ => true | _ => false
def isS : V → Bool | .str _ => true | _ => false
def isLo : Option HO → Bool | some (.lst _) => true | _ => false
def isTo : Option HO → Bool | some (.tup _) => true | _ => false
def isL (H : Hp) : V → Bool | .ref a => isLo (H a) | _ => false
def isT (H : Hp) : V → Bool | .ref a => isTo (H a) | _ => false
/-- v is of the type t, of which isinstance says .. -/
structure Kin (K : PySem.W.Frag) (H : Hp) (v : V) (t : Value) : Prop where
  ty : TyX K H v t
  int : PySem.W.kitOne K t (.type "int") = some (isI v || isB v)
  bool : PySem.W.kitOne K t (.type "bool") = some (isB v)
  str : PySem.W.kitOne K t (.type "str") = some (isS v)
  list : PySem.W.kitOne K t (.type "list") = some (isL H v)
  tuple : PySem.W.kitOne K t (.type "tuple") = some (isT H v)
theorem isL_at {H : Hp} {a : Addr} {o : HO} (h : H a = some o) : isL H (.ref a) = isLo (some o) := by rw [← h]; rfl
theorem isT_at {H : Hp} {a : Addr} {o : HO} (h : H a = some o) : isT H (.ref a) = isTo (some o) := by rw [← h]; rfl
theorem Pl.kin {K : PySem.W.Frag} {H : Hp} {v : V} (h : Pl H v) : ∃ t, Kin K H v t := by
  cases h with
  | non => exact ⟨.type "NoneType", .base .non, kit_ty (r := false) (by decide +kernel), kit_ty (r := false) (by decide +kernel), kit_ty (r := false) (by decide +kernel), kit_ty (r := false) (by decide +kernel), kit_ty (r := false) (by decide +kernel)⟩
  | bl b => exact ⟨.type "bool", .base (.bl b), kit_ty (r := true) (by decide +kernel), kit_ty (r := true) (by decide +kernel), kit_ty (r := false) (by decide +kernel), kit_ty (r := false) (by decide +kernel), kit_ty (r := false) (by decide +kernel)⟩
  | int i => exact ⟨.type "int", .base (.int i), kit_ty (r := true) (by decide +kernel), kit_ty (r := false) (by decide +kernel), kit_ty (r := false) (by decide +kernel), kit_ty (r := false) (by decide +kernel), kit_ty (r := false) (by decide +kernel)⟩
  | str z => exact ⟨.type "str", .base (.str z), kit_ty (r := false) (by decide +kernel), kit_ty (r := false) (by decide +kernel), kit_ty (r := true) (by decide +kernel), kit_ty (r := false) (by decide +kernel), kit_ty (r := false) (by decide +kernel)⟩
  | lst h => exact ⟨.type "list", .base (.lst h), kit_ty (r := false) (by decide +kernel), kit_ty (r := false) (by decide +kernel), kit_ty (r := false) (by decide +kernel), (isL_at h : isL H _ = true) ▸ kit_ty (r := true) (by decide +kernel), (isT_at h : isT H _ = false) ▸ kit_ty (r := false) (by decide +kernel)⟩
  | tup h => exact ⟨.type "tuple", .base (.tup h), kit_ty (r := false) (by decide +kernel), kit_ty (r := false) (by decide +kernel), kit_ty (r := false) (by decide +kernel), (isL_at h : isL H _ = false) ▸ kit_ty (r := false) (by decide +kernel), (isT_at h : isT H _ = true) ▸ kit_ty (r := true) (by decide +kernel)⟩
  | dct h => exact ⟨.type "dict", .base (.dK h), kit_ty (r := false) (by decide +kernel), kit_ty (r := false) (by decide +kernel), kit_ty (r := false) (by decide +kernel), (isL_at h : isL H _ = false) ▸ kit_ty (r := false) (by decide +kernel), (isT_at h : isT H _ = false) ▸ kit_ty (r := false) (by decide +kernel)⟩
theorem Pl.ex {H H' : Hp} {v : V} (e : Ex H H') (h : Pl H v) : Pl H' v := by
  cases h with
  | non => exact .non
  | bl b => exact .bl b
  | int i => exact .int i
  | str z => exact .str z
  | lst h => exact .lst (e _ _ h)
  | tup h => exact .tup (e _ _ h)
  | dct h => exact .dct (e _ _ h)
end WW

set_option Elab.async false
set_option linter.all false
set_option maxRecDepth 100000
set_option maxHeartbeats 4000000
/-! sorted of a list or a dict of texts; len of a set of texts; walks that only make things. -/
namespace WW
open PySem PySem.Spec PyProof.Rows L2 Evl
theorem leS_of_lt {a b : Str} (h : ltCps b.cps.toList a.cps.toList = false) : leS a b = true := by
  rw [ltCps_eq] at h
  unfold leS
  exact decide_eq_true (List.not_lt.mp (of_decide_eq_false h))
theorem rising_pw : ∀ {p : Str} {l : List Str}, risingS p l = true → (p :: l).Pairwise (fun a b => leS a b = true)
  | p, [], _ => List.pairwise_singleton _ _
  | p, x :: r, h => by
    have h2 : (!ltCps x.cps.toList p.cps.toList && risingS x r) = true := h
    rw [Bool.and_eq_true, Bool.not_eq_true'] at h2
    have ih := rising_pw h2.2
    have px := leS_of_lt h2.1
    refine List.pairwise_cons.mpr ⟨fun y hy => ?_, ih⟩
    rcases List.mem_cons.mp hy with rfl | hy
    · exact px
    · exact leS_trans _ _ _ px ((List.pairwise_cons.mp ih).1 y hy)
theorem sortS_of {ys ks : List Str} (p : ys.Perm ks) (h : sortedS ys = true) : ys = sortS ks := by
  have pw : ys.Pairwise (fun a b => leS a b = true) := by
    cases ys with
    | nil => exact .nil
    | cons x r => exact rising_pw h
  exact List.Perm.eq_of_pairwise (fun a b _ _ => leS_anti a b) pw (sortS_sorted ks) (p.trans (sortS_perm ks).symm)
section
variable {X : Cx} {K : PySem.W.Frag}
/-- sorted of a list or a tuple of texts -/
def rSortL (K : PySem.W.Frag) : List V → Hp → VK → Prop := fun vs H Q => ∃ (a : Addr) (xs : List Str), vs = [V.ref a] ∧ SqL K H a (xs.map V.str) ∧ xs.length < 64 ∧ ∀ p, H p = none → Q (.ref p) (upd H p (.lst ((sortS xs).map V.str)))
theorem cr_sortL (h : X.K = K) : CallR X (.builtin "sorted") (rSortL K) := by
  intro pins s σ H vs us Q I r q
  obtain ⟨a, xs, e, hs, h64, q⟩ := q
  exact cr_sortedS pins s σ H vs us Q I r ⟨a, xs, e, h ▸ hs, h64, fun ys p hp hy hn => by rw [sortS_of hp hy]; exact q p hn⟩
/-- sorted of a dict -/
def rSortK : List V → Hp → VK → Prop := fun vs H Q => ∃ (a : Addr) (kvs : List (Key × V)) (ks : List Str), vs = [.ref a] ∧ Rd H a (.dK kvs) ∧ kvs.map (·.1) = ks.map Sum.inr ∧ ks.length < 64 ∧ ∀ p, H p = none → Q (.ref p) (upd H p (.lst ((sortS ks).map V.str)))
theorem cr_sortK (hc : X.calm = true) : CallR X (.builtin "sorted") rSortK := by
  intro pins s σ H vs us Q I r q
  obtain ⟨a, kvs, ks, e, hd, hk, h64, q⟩ := q
  exact call_sortedD hc pins s σ H vs us Q I r ⟨a, kvs, ks, e, hd, hk, h64, fun ys p hp hy hn => by rw [sortS_of hp hy]; exact q p hn⟩
/-- len of a set of texts -/
def rLenS (P : Program) (w : World) : List V → Hp → VK → Prop := fun vs H Q => ∃ (a : Addr) (ks : List Str), vs = [.ref a] ∧ H a = some (SSO P w a ks) ∧ Q (.int ks.length) H
theorem cr_lenS : CallR X (.builtin "len") (rLenS X.prog X.w) := by
  intro pins s σ H vs us Q I r q
  obtain ⟨a, ks, rfl, ha, q⟩ := q
  rw [Vals.ref1 r]
  obtain ⟨o, es, ep, t, ho, hex, hd, nd, pr, hz, hf, _⟩ := sso_get I ha
  have hl : ks.length = es.size := by rw [Paired.length pr]; simp
  refine call_len_set ho hex hd hf (by unfold scanBound at hz; omega) ⟨.int ks.length, H, I.tok _, ⟨_, by rw [hl]⟩, q⟩
end
section
variable {J : It} {H : Hp} {xs : List V} {D : Addr} {σ : L2.St} {vs : List Nat} {j n : Nat} {g : TG} {tt : TT} {te tk tv : TE} {Q : Hp → Prop}
/-- a comprehension that only makes things, and puts all in -/
theorem lc_walk (v : Nat → V) (hn : n < 100000) (go : ∀ i H', Ex H H' → i < n → J.go i H') (stop : ∀ H', Ex H H' → J.stop n H') (hD : H D = none)
    (step : ∀ i H' x H'', Ex H H' → i < n → J.yld i H' x H'' → ∀ (N : V → Hp → Prop) (M : Hp → Prop), (∀ H4, Ex H' H4 → N (v i) H4) → g x (wipe σ vs) H'' fun σ2 H2 => wipe σ2 vs = wipe σ vs ∧ tt σ2 H2 fun b H3 => if b = true then te σ2 H3 fun y H4 => N y H4 else M H3)
    (q : ∀ H', Ex H H' → H' D = some (.lst ((List.range n).map v)) → Q H') :
    ∃ W : Nat → Nat → Hp → Prop, (∃ m, W 0 m (upd H D (.lst []))) ∧ ∀ i m H, W i m H →
      (J.stop i H ∧ Q H) ∨ (J.go i H ∧ ∃ Nx : Hp → Prop, (∀ H', Nx H' → ∃ m', m' < m ∧ W (i + 1) m' H') ∧ ∀ x H', J.yld i H x H' → g x (wipe σ vs) H' fun σ2 H2 => wipe σ2 vs = wipe σ vs ∧ tt σ2 H2 fun b H3 =>
        if b = true then te σ2 H3 fun y H4 => ∃ acc, H4 D = some (.lst acc) ∧ acc.length < sizeLine ∧ Nx (upd H4 D (.lst (acc ++ [y]))) else Nx H3) := by
  refine ⟨fun i m H' => m = n - i ∧ i ≤ n ∧ Ex H H' ∧ H' D = some (.lst ((List.range i).map v)), ⟨n, by simp, Nat.zero_le _, Ex.new hD, upd_same⟩, ?_⟩
  rintro i m H' ⟨rfl, hi, e, hd⟩
  by_cases hlt : i < n
  · refine .inr ⟨go i H' e hlt, fun H' => Ex H H' ∧ H' D = some (.lst ((List.range (i + 1)).map v)), fun H'' p' => ⟨n - (i + 1), by omega, rfl, hlt, p'⟩, fun x H'' y => ?_⟩
    refine step i H' x H'' e hlt y (fun y H4 => ∃ acc, H4 D = some (.lst acc) ∧ acc.length < sizeLine ∧ (Ex H (upd H4 D (.lst (acc ++ [y]))) ∧ (upd H4 D (.lst (acc ++ [y]))) D = some (.lst ((List.range (i + 1)).map v)))) _ fun H4 e4 => ⟨_, e4 _ _ hd, ?_, (e.trans e4).mut hD, ?_⟩
    · rw [List.length_map, List.length_range]
      exact sz_lt (by omega)
    · rw [upd_same, List.range_succ, List.map_append]
      rfl
  · have e1 : i = n := by omega
    subst e1
    exact .inl ⟨stop H' e, q H' e hd⟩
/-- {k: v for x in ..}, no key twice, that only makes things -/
theorem dc_ev {u : V → Str} {v : V → V} (S : Steady J H xs) (hz : xs.length < 100000) (nd : (xs.map u).Nodup) (hw : ∀ x, wipe ((wipe σ vs).set j (some x)) vs = wipe σ vs) (hD : H D = none)
    (hk : ∀ x ∈ xs, Ev tk ((wipe σ vs).set j (some x)) H (.str (u x))) (hv : ∀ x ∈ xs, Ev tv ((wipe σ vs).set j (some x)) H (v x))
    (q : ∀ H', Ex H H' → H' D = some (.dK (xs.map fun x => (.inr (u x), v x))) → Q H') :
    ∃ W : Nat → Nat → Hp → Prop, (∃ m, W 0 m (upd H D (.dK []))) ∧ ∀ i m H, W i m H →
      (J.stop i H ∧ Q H) ∨ (J.go i H ∧ ∃ Nx : Hp → Prop, (∀ H', Nx H' → ∃ m', m' < m ∧ W (i + 1) m' H') ∧ ∀ x H', J.yld i H x H' → gName j x (wipe σ vs) H' fun σ2 H2 => wipe σ2 vs = wipe σ vs ∧ tYes σ2 H2 fun b H3 =>
        if b = true then tk σ2 H3 fun y H4 => tv σ2 H4 fun z H5 => ∃ kvs k, y = kV k ∧ H5 D = some (.dK kvs) ∧ kvs.length < sizeLine ∧ Nx (upd H5 D (.dK (putK kvs k z))) else Nx H3) := by
  refine ⟨fun i m H' => m = xs.length - i ∧ i ≤ xs.length ∧ Ex H H' ∧ H' D = some (.dK ((xs.take i).map fun x => (.inr (u x), v x))), ⟨xs.length, by simp, Nat.zero_le _, Ex.new hD, upd_same⟩, ?_⟩
  rintro i m H' ⟨rfl, hi, e, hd⟩
  by_cases hlt : i < xs.length
  · refine .inr ⟨S.go i H' e hlt, fun H' => Ex H H' ∧ H' D = some (.dK ((xs.take (i + 1)).map fun x => (.inr (u x), v x))), fun H'' p' => ⟨xs.length - (i + 1), by omega, rfl, hlt, p'⟩, fun x H'' y => ?_⟩
    obtain ⟨e1, hx⟩ := S.yld i H' x H'' e hlt y
    subst e1
    have mx : x ∈ xs := List.mem_of_getElem? hx
    refine ⟨hw x, ?_⟩
    unfold tYes
    refine hk x mx _ e _ fun H2 e2 => hv x mx H2 (e.trans e2) _ fun H3 e3 => ⟨_, .inr (u x), rfl, e3 _ _ (e2 _ _ hd), ?_, (e.trans e2 |>.trans e3).mut hD, ?_⟩
    · rw [List.length_map, List.length_take]
      exact sz_lt (by omega)
    · rw [upd_same, putK_new, take_snoc hx, List.map_append]
      · rfl
      · cases ev : valV ((xs.take i).map fun x => ((.inr (u x) : Key), v x)) (.inr (u x)) with
        | none => rfl
        | some z =>
          exfalso
          have ha : (((xs.take i).map fun x => ((.inr (u x) : Key), v x)).any fun kv => decide (kv.1 = (Sum.inr (u x) : Key))) = true := by rw [valV_any, ev]; rfl
          obtain ⟨q2, hq, eq⟩ := List.any_eq_true.mp ha
          obtain ⟨z2, hz2, rfl⟩ := List.mem_map.mp hq
          have e2 : u z2 = u x := Sum.inr.inj (of_decide_eq_true eq)
          have nd2 := nd.sublist ((List.take_sublist (i + 1) xs).map u)
          rw [take_snoc hx, List.map_append, List.nodup_append] at nd2
          exact nd2.2.2 (u z2) (List.mem_map_of_mem hz2) (u x) (by simp) e2
  · have e1 : i = xs.length := by omega
    subst e1
    rw [List.take_length] at hd
    exact .inl ⟨S.stop H' e, q H' e hd⟩
end
end WW

set_option Elab.async false
set_option linter.all false
set_option maxRecDepth 100000
set_option maxHeartbeats 4000000
/-! Wishes as data, and their wordings. -/
namespace WW
open PySem PySem.Spec PyProof.Rows L2 TL
/-- a letter of a name -/
def lcB (c : Nat) : Bool := decide (97 ≤ c) && decide (c ≤ 122)
/-- a name -/
def nmS (z : Str) : Bool := decide (1 ≤ (z.length : Int)) && (decide ((z.length : Int) ≤ 10) && z.cps.toList.all fun c => lcB c)
/-- a digit -/
def dgB (c : Nat) : Bool := decide (48 ≤ c) && decide (c ≤ 57)
abbrev sp1 : Str := " "
abbrev cm1 : Str := ","
abbrev mn1 : Str := "-"
abbrev tKept : Str := "kept"
abbrev tTold : Str := "told"
abbrev tWarned : Str := "warned"
abbrev tHidden : Str := "hidden"
abbrev tSure : Str := "sure"
abbrev tWithin : Str := "within"
abbrev tAhead : Str := "ahead"
abbrev tJointly : Str := "jointly"
abbrev tBy : Str := "by"
def nmD : PyData → Bool
  | .str z => nmS z
  | _ => false
def cntD : PyData → Bool
  | .int i => decide (0 ≤ i) && decide (i < 1001)
  | _ => false
def flagD : PyData → Bool
  | .bool _ => true
  | _ => false
def stD : PyData → Str
  | .str z => z
  | _ => Str.empty
/-- ascending -/
def ascS (zs : List Str) : Bool := (List.range (zs.length - 1)).all fun i => decide ((zs.getD i Str.empty).cps.toList < (zs.getD (i + 1) Str.empty).cps.toList)
def wdsD : PyData → Bool
  | .tuple ds => ds.all nmD && ascS (ds.map stD)
  | _ => false
def strD (w : Str) : PyData → Bool
  | .str z => decide (z = w)
  | _ => false
/-- a wish -/
def formD : PyData → Bool
  | .tuple [x] => strD tKept x
  | .tuple [f, a, m] => if strD tTold f || strD tWarned f then nmD a && cntD m else if strD tHidden f then nmD a && flagD m else strD tSure f && (wdsD a && wdsD m)
  | _ => false
/-- the words of a row -/
def rowT : PyData → Str
  | .tuple (d :: ds) => Str.join cm1 ((d :: ds).map stD)
  | _ => mn1
def numT : PyData → Str
  | .int i => toString i
  | _ => Str.empty
def partsD : PyData → List Str
  | .tuple [.str _] => [tKept]
  | .tuple [.str f, a, m] =>
    if f = tTold then [tTold, stD a, tWithin, numT m]
    else if f = tWarned then [tWarned, stD a, tAhead, numT m]
    else if f = tHidden then (match m with | .bool true => [tHidden, stD a, tJointly] | _ => [tHidden, stD a])
    else [tSure, rowT m, tBy, rowT a]
  | _ => []
/-- the wording -/
def textD (d : PyData) : Str := Str.join sp1 (partsD d)
/-! ### read back -/
def rowD (x : Str) : PyData := if x = mn1 then .tuple [] else .tuple ((Txt.split x cm1).map .str)
def raw (num : Str → PyData) : List Str → PyData
  | [a] => if a = tKept then .tuple [.str tKept] else .none
  | [a, b] => if a = tHidden then .tuple [.str tHidden, .str b, .bool false] else .none
  | [a, b, c] => if a = tHidden ∧ c = tJointly then .tuple [.str tHidden, .str b, .bool true] else .none
  | [a, b, c, d] => if (a = tTold ∧ c = tWithin) ∨ (a = tWarned ∧ c = tAhead) then .tuple [.str a, .str b, num d]
    else if a = tSure ∧ c = tBy then .tuple [.str tSure, rowD d, rowD b] else .none
  | _ => .none
/-- one to four digits -/
def dig4 (x : Str) : Bool := decide (1 ≤ (x.length : Int)) && (decide ((x.length : Int) ≤ 4) && x.cps.toList.all fun c => dgB c)
def valN (x : Str) : PyData := .int ((NumText.digitsVal x.cps.toList : Nat) : Int)
/-- without needless zeros -/
def numlB (x : Str) : Bool := dig4 x && (decide (x = "0") || !decide (x.cps.toList[0]? = some 48))
def numP (x : Str) : PyData := if numlB x then valN x else .none
def numQ (x : Str) : PyData := if dig4 x then valN x else .none
theorem formD3 (f a m : PyData) : formD (.tuple [f, a, m]) = if strD tTold f || strD tWarned f then nmD a && cntD m else if strD tHidden f then nmD a && flagD m else strD tSure f && (wdsD a && wdsD m) := rfl
theorem partsD3 (f : Str) (a m : PyData) : partsD (.tuple [.str f, a, m]) = if f = tTold then [tTold, stD a, tWithin, numT m]
    else if f = tWarned then [tWarned, stD a, tAhead, numT m]
    else if f = tHidden then (match m with | .bool true => [tHidden, stD a, tJointly] | _ => [tHidden, stD a])
    else [tSure, rowT m, tBy, rowT a] := rfl
theorem raw1 (num : Str → PyData) (a : Str) : raw num [a] = if a = tKept then .tuple [.str tKept] else .none := rfl
theorem raw2 (num : Str → PyData) (a b : Str) : raw num [a, b] = if a = tHidden then .tuple [.str tHidden, .str b, .bool false] else .none := rfl
theorem raw3 (num : Str → PyData) (a b c : Str) : raw num [a, b, c] = if a = tHidden ∧ c = tJointly then .tuple [.str tHidden, .str b, .bool true] else .none := rfl
theorem raw4 (num : Str → PyData) (a b c d : Str) : raw num [a, b, c, d] = if (a = tTold ∧ c = tWithin) ∨ (a = tWarned ∧ c = tAhead) then .tuple [.str a, .str b, num d]
    else if a = tSure ∧ c = tBy then .tuple [.str tSure, rowD d, rowD b] else .none := rfl
theorem nmS_each {z : Str} (h : nmS z = true) : ∀ c ∈ z.cps.toList, 97 ≤ c ∧ c ≤ 122 := by
  unfold nmS at h
  simp only [Bool.and_eq_true, List.all_eq_true] at h
  intro c hc
  have := h.2.2 c hc
  unfold lcB at this
  simpa using this
theorem nmS_len {z : Str} (h : nmS z = true) : 1 ≤ z.length ∧ z.length ≤ 10 := by
  unfold nmS at h
  simp only [Bool.and_eq_true, decide_eq_true_eq] at h
  omega
theorem nmS_free {z : Str} {s : Nat} (h : nmS z = true) (hs : s < 97) : s ∉ tl z := fun m => by
  have := nmS_each h s m
  omega
theorem tl_sp : tl sp1 = [32] := by decide +kernel
theorem tl_cm : tl cm1 = [44] := by decide +kernel
theorem tl_mn : tl mn1 = [45] := by decide +kernel
theorem split_jn {ps : List Str} (hne : ps ≠ []) (hp : ∀ p ∈ ps, 32 ∉ tl p) : Txt.split (Str.join sp1 ps) sp1 = ps := by
  rw [← join_eq]
  exact split_join tl_sp (by decide +kernel) hne hp
theorem split_jc {ps : List Str} (hne : ps ≠ []) (hp : ∀ p ∈ ps, 44 ∉ tl p) : Txt.split (Str.join cm1 ps) cm1 = ps := by
  rw [← join_eq]
  exact split_join tl_cm (by decide +kernel) hne hp
theorem jn_split (x : Str) : Str.join sp1 (Txt.split x sp1) = x := StrLaws.join_split x sp1
theorem jc_split (x : Str) : Str.join cm1 (Txt.split x cm1) = x := StrLaws.join_split x cm1
theorem split_ne (x y : Str) : Txt.split x y ≠ [] := fun h => by
  have := split_pos x y
  rw [h] at this
  exact absurd this (by decide)
theorem joinL_mem {S : List Nat} {c : Nat} : ∀ {ps : List (List Nat)}, c ∈ joinL S ps → c ∈ S ∨ ∃ p ∈ ps, c ∈ p
  | [], h => by cases h
  | [p], h => .inr ⟨p, List.mem_cons_self, h⟩
  | p :: q :: r, h => by
    rcases List.mem_append.mp h with h | h
    · exact .inr ⟨p, List.mem_cons_self, h⟩
    · rcases List.mem_append.mp h with h | h
      · exact .inl h
      · rcases joinL_mem h with h | ⟨z, hz, h⟩
        · exact .inl h
        · exact .inr ⟨z, List.mem_cons_of_mem _ hz, h⟩
theorem joinL_len {S : List Nat} : ∀ {ps : List (List Nat)} {p : List Nat}, p ∈ ps → p.length ≤ (joinL S ps).length
  | [q], p, h => by rw [List.mem_singleton.mp h]; exact Nat.le_refl _
  | q :: r :: l, p, h => by
    show p.length ≤ (q ++ (S ++ joinL S (r :: l))).length
    rw [List.length_append, List.length_append]
    rcases List.mem_cons.mp h with rfl | h
    · omega
    · have := joinL_len (S := S) h
      omega
theorem split_part {x y p : Str} (h : p ∈ Txt.split x y) : p.length ≤ x.length := by
  have e := congrArg tl (StrLaws.join_split x y)
  rw [tl_join] at e
  have := joinL_len (S := tl y) (List.mem_map_of_mem (f := tl) h)
  rw [e, ← len_tl, ← len_tl] at this
  exact this
theorem nmD_str {d : PyData} (h : nmD d = true) : ∃ z, d = .str z ∧ nmS z = true := by
  cases d <;> first | exact ⟨_, rfl, h⟩ | exact nomatch (show false = true from h)
theorem all_str {ds : List PyData} (h : ds.all nmD = true) : (ds.map stD).map PyData.str = ds ∧ ∀ z ∈ ds.map stD, nmS z = true := by
  induction ds with
  | nil => exact ⟨rfl, fun _ z => nomatch z⟩
  | cons d ds ih =>
    rw [List.all_cons, Bool.and_eq_true] at h
    obtain ⟨z, rfl, hz⟩ := nmD_str h.1
    obtain ⟨e, g⟩ := ih h.2
    refine ⟨by rw [List.map_cons, List.map_cons, e]; rfl, fun x hx => ?_⟩
    rw [List.map_cons] at hx
    rcases List.mem_cons.mp hx with rfl | hx
    · exact hz
    · exact g x hx
/-- a row's words are read back -/
theorem row_back {d : PyData} (h : wdsD d = true) : rowD (rowT d) = d ∧ 32 ∉ tl (rowT d) := by
  match d, h with
  | .tuple [], _ => exact ⟨by unfold rowD rowT; rw [if_pos rfl], by show 32 ∉ tl mn1; rw [tl_mn]; decide⟩
  | .tuple (x :: ds), h =>
    have h1 : (x :: ds).all nmD = true := by
      have h : (((x :: ds).all nmD) && ascS ((x :: ds).map stD)) = true := h
      rw [Bool.and_eq_true] at h
      exact h.1
    obtain ⟨e, g⟩ := all_str h1
    have hc : ∀ c ∈ tl (rowT (.tuple (x :: ds))), c = 44 ∨ (97 ≤ c ∧ c ≤ 122) := fun c hc => by
      have hc : c ∈ tl (Str.join cm1 ((x :: ds).map stD)) := hc
      rw [tl_join, tl_cm] at hc
      rcases joinL_mem hc with hc | ⟨p, hp, hc⟩
      · exact .inl (List.mem_singleton.mp hc)
      · obtain ⟨z, hz, rfl⟩ := List.mem_map.mp hp
        exact .inr (nmS_each (g z hz) c hc)
    have hs : Txt.split (rowT (.tuple (x :: ds))) cm1 = (x :: ds).map stD := split_jc (by simp) fun p hp => nmS_free (g p hp) (by decide)
    refine ⟨?_, fun m => by have := hc 32 m; omega⟩
    unfold rowD
    rw [if_neg, hs, e]
    intro z
    have : (45 : Nat) ∈ tl (rowT (.tuple (x :: ds))) := by rw [z, tl_mn]; decide
    have := hc 45 this
    omega
/-! ### numbers -/
theorem ts_nat (n : Nat) : (toString ((n : Nat) : Int) : String) = toString n := rfl
theorem numT_tl {i : Int} (h : 0 ≤ i) : tl (numT (.int i)) = numL i.toNat := by
  have e : i = ((i.toNat : Nat) : Int) := by omega
  have := tl_num i.toNat
  rw [← e] at this
  exact this
theorem numT_num {i : Int} (h0 : 0 ≤ i) (h1 : i < 1001) : numP (numT (.int i)) = .int i := by
  have et := numT_tl h0
  have hd := numL_digits i.toNat
  have hl : (numL i.toNat).length ≤ 4 := numL_len (by decide) (by show i.toNat < 10000; omega)
  have hn := numL_ne i.toNat
  have elen : (numT (.int i)).length = (numL i.toNat).length := by rw [len_tl, et]
  have hp : 1 ≤ (numL i.toNat).length := List.length_pos_iff.mpr hn
  have hdig : dig4 (numT (.int i)) = true := by
    unfold dig4
    rw [elen, decide_eq_true (show (1 : Int) ≤ ((numL i.toNat).length : Int) by omega), decide_eq_true (show ((numL i.toNat).length : Int) ≤ 4 by omega)]
    simp only [Bool.true_and, List.all_eq_true]
    intro c hc
    have := hd c (by rw [← et]; exact hc)
    unfold dgB
    rw [decide_eq_true this.1, decide_eq_true this.2]
    rfl
  have hz : (decide (numT (.int i) = "0") || !decide ((numT (.int i)).cps.toList[0]? = some 48)) = true := by
    by_cases h10 : i.toNat < 10
    · by_cases hi : i = 0
      · subst hi
        decide +kernel
      · have e : (numT (.int i)).cps.toList = [48 + i.toNat] := et.trans (numL_lt h10)
        rw [e]
        have : ¬ ([48 + i.toNat][0]? = some 48) := by simp; omega
        rw [decide_eq_false this]
        simp
    · have e : (numT (.int i)).cps.toList[0]? ≠ some 48 := by
        show (tl (numT (.int i)))[0]? ≠ some 48
        rw [et]
        have key : ∀ n : Nat, 1 ≤ n → (numL n)[0]? ≠ some 48 := by
          intro n
          induction n using Nat.strongRecOn with
          | _ n ih =>
            intro hn1
            by_cases h : n < 10
            · rw [numL_lt h]
              simp
              omega
            · rw [numL_step (by omega), List.getElem?_append_left (List.length_pos_iff.mpr (numL_ne _))]
              exact ih (n / 10) (by omega) (by omega)
        exact key _ (by omega)
      rw [decide_eq_false e]
      simp
  unfold numP numlB
  rw [hdig, hz]
  show valN (numT (.int i)) = .int i
  unfold valN
  rw [show (numT (.int i)).cps.toList = numL i.toNat from et, numL_val]
  congr 1
  omega
theorem numT_free {i : Int} (h : 0 ≤ i) : 32 ∉ tl (numT (.int i)) := by
  rw [numT_tl h]
  exact numL_free (.inl (by decide))
/-- the digits without needless zeros are just those that are written -/
theorem numl_iff {x : Str} (h : dig4 x = true) : numlB x = true ↔ numT (valN x) = x := by
  have hx := h
  unfold dig4 at hx
  simp only [Bool.and_eq_true, decide_eq_true_eq, List.all_eq_true] at hx
  obtain ⟨h1, h4, hd⟩ := hx
  have ad : NumText.AllDigits x.cps.toList := fun c hc => by
    have := hd c hc
    unfold dgB at this
    simpa using this
  have el : x.length = x.cps.toList.length := len_tl x
  have et : tl (numT (valN x)) = numL (NumText.digitsVal x.cps.toList) := by
    unfold valN
    rw [numT_tl (by omega)]
    rfl
  have back : numT (valN x) = x ↔ numL (NumText.digitsVal x.cps.toList) = x.cps.toList := by
    constructor
    · intro e
      rw [← et, e]
    · intro e
      exact ext_tl (et.trans e)
  rw [back]
  unfold numlB
  rw [h, Bool.true_and]
  match hm : x.cps.toList, (show x.cps.toList ≠ [] from fun z => by rw [z] at el; simp at el; omega) with
  | c :: r, _ =>
    rw [hm] at ad el
    have hc := ad.head
    have e0 : decide (x = "0") = decide (c :: r = [48]) := by
      rw [decide_eq_decide]
      constructor
      · intro e
        rw [← hm, e]
        decide +kernel
      · intro e
        exact ext_tl (by show x.cps.toList = _; rw [hm, e]; decide +kernel)
    rw [e0]
    by_cases h0 : c = 48
    · subst h0
      cases r with
      | nil =>
        refine ⟨fun _ => ?_, fun _ => by simp⟩
        decide +kernel
      | cons c2 r2 =>
        constructor
        · intro e
          simp at e
        · intro e
          exfalso
          have key : ∀ n : Nat, (numL n)[0]? = some 48 → numL n = [48] := by
            intro n
            induction n using Nat.strongRecOn with
            | _ n ih =>
              intro hz
              by_cases h : n < 10
              · rw [numL_lt h] at hz ⊢
                simp at hz
                rw [hz]
              · rw [numL_step (by omega), List.getElem?_append_left (List.length_pos_iff.mpr (numL_ne _))] at hz
                have e1 := ih (n / 10) (by omega) hz
                have e2 := congrArg NumText.digitsVal e1
                rw [numL_val] at e2
                have : NumText.digitsVal [48] = 0 := by decide
                omega
          have e1 := key _ (by rw [e]; rfl)
          rw [e1] at e
          simp at e
    · refine ⟨fun _ => ?_, fun _ => ?_⟩
      · have := NumText.toDigits_digitsVal r.length (c :: r) rfl ad (.inr ⟨c, r, rfl, by omega⟩)
        unfold numL
        rw [this, List.map_map]
        have : ∀ l : List Nat, NumText.AllDigits l → l.map (Char.toNat ∘ Char.ofNat) = l := by
          intro l
          induction l with
          | nil => intro _; rfl
          | cons d l ih =>
            intro hl
            have hh := hl.head
            rw [List.map_cons, ih hl.tail]
            congr 1
            have : ∀ d : Fin 58, (Char.ofNat d.1).toNat = d.1 := by decide +kernel
            exact this ⟨d, by omega⟩
        exact this _ ad
      · simp [h0]
/-! ### the two readings -/
theorem form_cases {d : PyData} (h : formD d = true) : d = .tuple [.str tKept] ∨ (∃ z i, (d = .tuple [.str tTold, .str z, .int i] ∨ d = .tuple [.str tWarned, .str z, .int i]) ∧ nmS z = true ∧ 0 ≤ i ∧ i < 1001) ∨
    (∃ z b, d = .tuple [.str tHidden, .str z, .bool b] ∧ nmS z = true) ∨ ∃ a m, d = .tuple [.str tSure, a, m] ∧ wdsD a = true ∧ wdsD m = true := by
  have sd : ∀ {w : Str} {x : PyData}, strD w x = true → x = .str w := fun {w x} e => by
    cases x <;> first | exact congrArg PyData.str (of_decide_eq_true e) | exact nomatch (show false = true from e)
  match d, h with
  | .tuple [x], h => exact .inl (by rw [sd h])
  | .tuple [f, a, m], h =>
    have h : (if strD tTold f || strD tWarned f then nmD a && cntD m else if strD tHidden f then nmD a && flagD m else strD tSure f && (wdsD a && wdsD m)) = true := h
    split at h
    · rename_i h1
      rw [Bool.and_eq_true] at h
      obtain ⟨z, rfl, hz⟩ := nmD_str h.1
      have : ∃ i, m = .int i ∧ 0 ≤ i ∧ i < 1001 := by
        have h2 := h.2
        rcases m with _ | _ | i | _ | _ | _ | _ <;> first | exact nomatch (show false = true from h2) | skip
        have h3 : (decide ((0 : Int) ≤ i) && decide (i < (1001 : Int))) = true := h2
        simp at h3
        exact ⟨i, rfl, h3⟩
      obtain ⟨i, rfl, i0, i1⟩ := this
      refine .inr (.inl ⟨z, i, ?_, hz, i0, i1⟩)
      rcases Bool.or_eq_true_iff.mp h1 with h1 | h1
      · exact .inl (by rw [sd h1])
      · exact .inr (by rw [sd h1])
    · split at h
      · rename_i h2
        rw [Bool.and_eq_true] at h
        obtain ⟨z, rfl, hz⟩ := nmD_str h.1
        have : ∃ b, m = .bool b := by
          have h2 := h.2
          cases m <;> first | exact nomatch (show false = true from h2) | exact ⟨_, rfl⟩
        obtain ⟨b, rfl⟩ := this
        exact .inr (.inr (.inl ⟨z, b, by rw [sd h2], hz⟩))
      · rw [Bool.and_eq_true, Bool.and_eq_true] at h
        exact .inr (.inr (.inr ⟨a, m, by rw [sd h.1], h.2⟩))
theorem form_kept : formD (.tuple [.str tKept]) = true := by decide +kernel
theorem form_told (z : PyData) (m : PyData) : formD (.tuple [.str tTold, z, m]) = (nmD z && cntD m) := by
  rw [formD3, show strD tTold (.str tTold) = true by decide +kernel]
  rfl
theorem form_warned (z : PyData) (m : PyData) : formD (.tuple [.str tWarned, z, m]) = (nmD z && cntD m) := by
  rw [formD3, show (strD tTold (.str tWarned) || strD tWarned (.str tWarned)) = true by decide +kernel]
  rfl
theorem form_hidden (z : PyData) (m : PyData) : formD (.tuple [.str tHidden, z, m]) = (nmD z && flagD m) := by
  rw [formD3, show (strD tTold (.str tHidden) || strD tWarned (.str tHidden)) = false by decide +kernel, show strD tHidden (.str tHidden) = true by decide +kernel]
  rfl
theorem form_sure (z : PyData) (m : PyData) : formD (.tuple [.str tSure, z, m]) = (wdsD z && wdsD m) := by
  rw [formD3, show (strD tTold (.str tSure) || strD tWarned (.str tSure)) = false by decide +kernel, show strD tHidden (.str tSure) = false by decide +kernel, show strD tSure (.str tSure) = true by decide +kernel]
  rfl
theorem parts_told (a m : PyData) : partsD (.tuple [.str tTold, a, m]) = [tTold, stD a, tWithin, numT m] := by
  rw [partsD3, if_pos rfl]
theorem parts_warned (a m : PyData) : partsD (.tuple [.str tWarned, a, m]) = [tWarned, stD a, tAhead, numT m] := by
  rw [partsD3, if_neg (by decide +kernel), if_pos rfl]
theorem parts_hidden (a : PyData) (b : Bool) : partsD (.tuple [.str tHidden, a, .bool b]) = if b then [tHidden, stD a, tJointly] else [tHidden, stD a] := by
  rw [partsD3, if_neg (by decide +kernel), if_neg (by decide +kernel), if_pos rfl]
  cases b <;> rfl
theorem parts_sure (a m : PyData) : partsD (.tuple [.str tSure, a, m]) = [tSure, rowT m, tBy, rowT a] := by
  rw [partsD3, if_neg (by decide +kernel), if_neg (by decide +kernel), if_neg (by decide +kernel)]
theorem w_free : ∀ x ∈ [tKept, tTold, tWarned, tHidden, tSure, tWithin, tAhead, tJointly, tBy], 32 ∉ tl x := by decide +kernel
/-- a wish, worded and read -/
theorem read_back {d : PyData} (h : formD d = true) : raw numP (Txt.split (textD d) sp1) = d := by
  unfold textD
  rcases form_cases h with rfl | ⟨z, i, hd, hz, i0, i1⟩ | ⟨z, b, rfl, hz⟩ | ⟨a, m, rfl, ha, hm⟩
  · rw [show partsD (.tuple [.str tKept]) = [tKept] from rfl, split_jn (by simp) (fun p hp => w_free p (by rw [List.mem_singleton.mp hp]; simp))]
    rw [raw1, if_pos rfl]
  · rcases hd with rfl | rfl
    · rw [parts_told, split_jn (by simp) (fun p hp => by
        simp only [List.mem_cons, List.not_mem_nil, or_false] at hp
        rcases hp with rfl | rfl | rfl | rfl
        · exact w_free _ (by simp)
        · exact nmS_free hz (by decide)
        · exact w_free _ (by simp)
        · exact numT_free i0)]
      rw [raw4, if_pos (.inl ⟨rfl, rfl⟩), numT_num i0 i1]
      rfl
    · rw [parts_warned, split_jn (by simp) (fun p hp => by
        simp only [List.mem_cons, List.not_mem_nil, or_false] at hp
        rcases hp with rfl | rfl | rfl | rfl
        · exact w_free _ (by simp)
        · exact nmS_free hz (by decide)
        · exact w_free _ (by simp)
        · exact numT_free i0)]
      rw [raw4, if_pos (.inr ⟨rfl, rfl⟩), numT_num i0 i1]
      rfl
  · rw [parts_hidden]
    cases b
    · rw [if_neg (by decide), split_jn (by simp) (fun p hp => by
        simp only [List.mem_cons, List.not_mem_nil, or_false] at hp
        rcases hp with rfl | rfl
        · exact w_free _ (by simp)
        · exact nmS_free hz (by decide))]
      rw [raw2, if_pos rfl]
      rfl
    · rw [if_pos rfl, split_jn (by simp) (fun p hp => by
        simp only [List.mem_cons, List.not_mem_nil, or_false] at hp
        rcases hp with rfl | rfl | rfl
        · exact w_free _ (by simp)
        · exact nmS_free hz (by decide)
        · exact w_free _ (by simp))]
      rw [raw3, if_pos ⟨rfl, rfl⟩]
      rfl
  · obtain ⟨ea, fa⟩ := row_back ha
    obtain ⟨em, fm⟩ := row_back hm
    rw [parts_sure, split_jn (by simp) (fun p hp => by
      simp only [List.mem_cons, List.not_mem_nil, or_false] at hp
      rcases hp with rfl | rfl | rfl | rfl
      · exact w_free _ (by simp)
      · exact fm
      · exact w_free _ (by simp)
      · exact fa)]
    rw [raw4, if_neg (by rintro (⟨z, _⟩ | ⟨z, _⟩) <;> exact absurd z (by decide +kernel)), if_pos ⟨rfl, rfl⟩, ea, em]
theorem rowT_back {x : Str} (h : wdsD (rowD x) = true) : rowT (rowD x) = x := by
  unfold rowD at h ⊢
  by_cases e : x = mn1
  · rw [if_pos e]
    exact e.symm
  · rw [if_neg e] at h ⊢
    have ne := split_ne x cm1
    cases hs : Txt.split x cm1 with
    | nil => exact absurd hs ne
    | cons p ps =>
      show Str.join cm1 (((p :: ps).map PyData.str).map stD) = x
      rw [List.map_map, show (stD ∘ PyData.str) = id from rfl, List.map_id, ← hs]
      exact jc_split x
/-- the two readings of a text agree -/
theorem two_read (t : Str) : (formD (raw numQ (Txt.split t sp1)) && decide (textD (raw numQ (Txt.split t sp1)) = t)) = formD (raw numP (Txt.split t sp1)) ∧
    (formD (raw numP (Txt.split t sp1)) = true → raw numQ (Txt.split t sp1) = raw numP (Txt.split t sp1)) := by
  have jt := jn_split t
  generalize Txt.split t sp1 = ps at jt
  have num : ∀ (w v b d : Str), ps = [w, b, v, d] → (w = tTold ∧ v = tWithin ∨ w = tWarned ∧ v = tAhead) →
      (formD (.tuple [.str w, .str b, numQ d]) && decide (textD (.tuple [.str w, .str b, numQ d]) = t)) = formD (.tuple [.str w, .str b, numP d]) ∧ (formD (.tuple [.str w, .str b, numP d]) = true → (.tuple [.str w, .str b, numQ d] : PyData) = .tuple [.str w, .str b, numP d]) := by
    rintro w v b d hps hw
    have fw : ∀ m, formD (.tuple [.str w, .str b, m]) = (nmS b && cntD m) := by
      rcases hw with ⟨rfl, _⟩ | ⟨rfl, _⟩
      · exact fun m => form_told _ m
      · exact fun m => form_warned _ m
    have tw : ∀ m, textD (.tuple [.str w, .str b, m]) = Str.join sp1 [w, b, v, numT m] := by
      rcases hw with ⟨rfl, rfl⟩ | ⟨rfl, rfl⟩
      · exact fun m => congrArg (Str.join sp1) (parts_told _ m)
      · exact fun m => congrArg (Str.join sp1) (parts_warned _ m)
    rw [fw, fw, tw]
    by_cases hd : dig4 d = true
    · have eQ : numQ d = valN d := by unfold numQ; rw [if_pos hd]
      have iff := numl_iff hd
      by_cases hn : numlB d = true
      · have eP : numP d = valN d := by unfold numP; rw [if_pos hn]
        rw [eQ, eP, iff.mp hn, decide_eq_true (by rw [← jt, hps]), Bool.and_true]
        exact ⟨rfl, fun _ => rfl⟩
      · have eP : numP d = .none := by unfold numP; rw [if_neg hn]
        have ne : ¬ (Str.join sp1 [w, b, v, numT (valN d)] = t) := fun e => by
          rw [← jt, hps] at e
          have e2 := congrArg tl e
          rw [tl_join, tl_join] at e2
          have e3 : joinL (tl sp1) [tl w, tl b, tl v, tl (numT (valN d))] = joinL (tl sp1) [tl w, tl b, tl v, tl d] := e2
          have e4 : tl w ++ (tl sp1 ++ (tl b ++ (tl sp1 ++ (tl v ++ (tl sp1 ++ tl (numT (valN d))))))) = tl w ++ (tl sp1 ++ (tl b ++ (tl sp1 ++ (tl v ++ (tl sp1 ++ tl d))))) := e3
          have e5 := List.append_cancel_left (List.append_cancel_left (List.append_cancel_left (List.append_cancel_left (List.append_cancel_left (List.append_cancel_left e4)))))
          exact hn (iff.mpr (ext_tl e5))
        rw [eP, eQ, decide_eq_false ne, Bool.and_false, show cntD .none = false from rfl, Bool.and_false]
        exact ⟨rfl, fun z => nomatch z⟩
    · have eQ : numQ d = .none := by unfold numQ; rw [if_neg hd]
      have eP : numP d = .none := by
        unfold numP numlB
        rw [Bool.not_eq_true] at hd
        rw [hd]
        rfl
      rw [eP, eQ, show cntD .none = false from rfl, Bool.and_false, Bool.false_and]
      exact ⟨rfl, fun z => nomatch z⟩
  have one : ∀ r : PyData, (formD r = true → textD r = t) → (formD r && decide (textD r = t)) = formD r ∧ (formD r = true → r = r) := fun r h => by
    refine ⟨?_, fun _ => rfl⟩
    cases e : formD r with
    | false => rfl
    | true => rw [decide_eq_true (h e)]; rfl
  match hps : ps with
  | [] => exact one .none (fun z => nomatch z)
  | [a] =>
    refine one (if a = tKept then .tuple [.str tKept] else .none) fun h => ?_
    by_cases e : a = tKept
    · rw [if_pos e]
      show Str.join sp1 [tKept] = t
      rw [← jt, e]
    · rw [if_neg e] at h
      exact nomatch h
  | [a, b] =>
    refine one (if a = tHidden then .tuple [.str tHidden, .str b, .bool false] else .none) fun h => ?_
    by_cases e : a = tHidden
    · rw [if_pos e]
      show Str.join sp1 (partsD (.tuple [.str tHidden, .str b, .bool false])) = t
      rw [parts_hidden, if_neg (by decide), ← jt, e]
      rfl
    · rw [if_neg e] at h
      exact nomatch h
  | [a, b, c] =>
    refine one (if a = tHidden ∧ c = tJointly then .tuple [.str tHidden, .str b, .bool true] else .none) fun h => ?_
    by_cases e : a = tHidden ∧ c = tJointly
    · rw [if_pos e]
      show Str.join sp1 (partsD (.tuple [.str tHidden, .str b, .bool true])) = t
      rw [parts_hidden, if_pos rfl, ← jt, e.1, e.2]
      rfl
    · rw [if_neg e] at h
      exact nomatch h
  | [a, b, c, d] =>
    by_cases e : (a = tTold ∧ c = tWithin) ∨ (a = tWarned ∧ c = tAhead)
    · have rq : ∀ n : Str → PyData, raw n [a, b, c, d] = .tuple [.str a, .str b, n d] := fun n => by
        rw [raw4, if_pos e]
      rw [rq, rq]
      exact num a c b d rfl e
    · have rq : ∀ n : Str → PyData, raw n [a, b, c, d] = if a = tSure ∧ c = tBy then .tuple [.str tSure, rowD d, rowD b] else .none := fun n => by
        rw [raw4, if_neg e]
      rw [rq, rq]
      refine one _ fun h => ?_
      by_cases e2 : a = tSure ∧ c = tBy
      · rw [if_pos e2] at h ⊢
        rw [form_sure, Bool.and_eq_true] at h
        show Str.join sp1 (partsD (.tuple [.str tSure, rowD d, rowD b])) = t
        rw [parts_sure, rowT_back h.2, rowT_back h.1, ← jt, e2.1, e2.2]
      · rw [if_neg e2] at h
        exact nomatch h
  | _ :: _ :: _ :: _ :: _ :: _ => exact one .none (fun z => nomatch z)
/-! ### lengths -/
def rowN : PyData → Nat
  | .tuple ds => ds.length
  | _ => 0
theorem joinL_sum {S : List Nat} : ∀ {ps : List (List Nat)} {k : Nat}, (∀ p ∈ ps, p.length ≤ k) → (joinL S ps).length ≤ ps.length * (k + S.length)
  | [], _, _ => Nat.zero_le _
  | [p], k, h => by
    show p.length ≤ 1 * (k + S.length)
    have := h p List.mem_cons_self
    omega
  | p :: q :: r, k, h => by
    show (p ++ (S ++ joinL S (q :: r))).length ≤ _
    have h1 := h p List.mem_cons_self
    have h2 := joinL_sum (S := S) (ps := q :: r) fun x hx => h x (List.mem_cons_of_mem _ hx)
    rw [List.length_append, List.length_append, List.length_cons, Nat.add_mul]
    omega
theorem rowT_len {d : PyData} {k : Nat} (h : wdsD d = true) (hk : rowN d ≤ k) : (rowT d).length ≤ 11 * k + 1 := by
  match d, h with
  | .tuple [], _ => rw [show rowT (.tuple []) = mn1 from rfl, show mn1.length = 1 by decide +kernel]; omega
  | .tuple (x :: ds), h =>
    have h : (((x :: ds).all nmD) && ascS ((x :: ds).map stD)) = true := h
    rw [Bool.and_eq_true] at h
    obtain ⟨e, g⟩ := all_str h.1
    rw [len_tl]
    show (tl (Str.join cm1 ((x :: ds).map stD))).length ≤ _
    rw [tl_join, tl_cm]
    have := joinL_sum (S := [44]) (ps := ((x :: ds).map stD).map tl) (k := 10) fun p hp => by
      obtain ⟨z, hz, rfl⟩ := List.mem_map.mp hp
      have := (nmS_len (g z hz)).2
      rw [len_tl] at this
      exact this
    rw [List.length_map, List.length_map] at this
    have h2 : (x :: ds).length ≤ k := hk
    have : (x :: ds).length * (10 + [44].length) ≤ k * 11 := Nat.mul_le_mul h2 (by decide)
    omega
theorem numT_len {i : Int} (h0 : 0 ≤ i) (h1 : i < 1001) : (numT (.int i)).length ≤ 4 := by
  rw [len_tl, numT_tl h0]
  exact numL_len (by decide) (by show i.toNat < 10000; omega)
/-- in a wish the rows are no longer than k -/
def shortW (k : Nat) : PyData → Bool
  | .tuple [_, a, m] => decide (rowN a ≤ k) && decide (rowN m ≤ k)
  | _ => true
theorem textD_len {d : PyData} {k : Nat} (h : formD d = true) (hs : shortW k d = true) : (textD d).length ≤ 22 * k + 200 := by
  have bound : ∀ {ps : List Str} {m : Nat}, (∀ p ∈ ps, p.length ≤ m) → (Str.join sp1 ps).length ≤ ps.length * (m + 1) := fun {ps m} h => by
    rw [len_tl, tl_join, tl_sp]
    have := joinL_sum (S := [32]) (ps := ps.map tl) (k := m) fun p hp => by
      obtain ⟨z, hz, rfl⟩ := List.mem_map.mp hp
      have := h z hz
      rw [len_tl] at this
      exact this
    rw [List.length_map] at this
    exact this
  have w10 : ∀ x ∈ [tKept, tTold, tWarned, tHidden, tSure, tWithin, tAhead, tJointly, tBy], x.length ≤ 10 := by decide +kernel
  unfold textD
  rcases form_cases h with rfl | ⟨z, i, hd, hz, i0, i1⟩ | ⟨z, b, rfl, hz⟩ | ⟨a, m, rfl, ha, hm⟩
  · have := bound (ps := [tKept]) (m := 10) fun p hp => w10 p (by rw [List.mem_singleton.mp hp]; simp)
    have e : (Str.join sp1 (partsD (.tuple [.str tKept]))).length ≤ [tKept].length * 11 := this
    simp at e
    omega
  · have hn := numT_len i0 i1
    have hz2 := (nmS_len hz).2
    rcases hd with rfl | rfl
    · rw [parts_told]
      have := bound (ps := [tTold, stD (.str z), tWithin, numT (.int i)]) (m := 10) fun p hp => by
        simp only [List.mem_cons, List.not_mem_nil, or_false] at hp
        rcases hp with rfl | rfl | rfl | rfl
        · exact w10 _ (by simp)
        · exact hz2
        · exact w10 _ (by simp)
        · omega
      simp at this
      omega
    · rw [parts_warned]
      have := bound (ps := [tWarned, stD (.str z), tAhead, numT (.int i)]) (m := 10) fun p hp => by
        simp only [List.mem_cons, List.not_mem_nil, or_false] at hp
        rcases hp with rfl | rfl | rfl | rfl
        · exact w10 _ (by simp)
        · exact hz2
        · exact w10 _ (by simp)
        · omega
      simp at this
      omega
  · have hz2 := (nmS_len hz).2
    rw [parts_hidden]
    cases b
    · rw [if_neg (by decide)]
      have := bound (ps := [tHidden, stD (.str z)]) (m := 10) fun p hp => by
        simp only [List.mem_cons, List.not_mem_nil, or_false] at hp
        rcases hp with rfl | rfl
        · exact w10 _ (by simp)
        · exact hz2
      simp at this
      omega
    · rw [if_pos rfl]
      have := bound (ps := [tHidden, stD (.str z), tJointly]) (m := 10) fun p hp => by
        simp only [List.mem_cons, List.not_mem_nil, or_false] at hp
        rcases hp with rfl | rfl | rfl
        · exact w10 _ (by simp)
        · exact hz2
        · exact w10 _ (by simp)
      simp at this
      omega
  · have hs : (decide (rowN a ≤ k) && decide (rowN m ≤ k)) = true := hs
    rw [Bool.and_eq_true, decide_eq_true_eq, decide_eq_true_eq] at hs
    have la := rowT_len ha hs.1
    have lm := rowT_len hm hs.2
    rw [parts_sure, len_tl, tl_join, tl_sp]
    show (tl tSure ++ ([32] ++ (tl (rowT m) ++ ([32] ++ (tl tBy ++ ([32] ++ tl (rowT a))))))).length ≤ _
    have l1 : (tl tSure).length = 4 := by decide +kernel
    have l2 : (tl tBy).length = 2 := by decide +kernel
    rw [len_tl] at la lm
    simp only [List.length_append, l1, l2, List.length_cons, List.length_nil]
    omega
end WW

set_option Elab.async false
set_option linter.all false
set_option maxRecDepth 100000
set_option maxHeartbeats 4000000
namespace WK
open PySem PySem.Spec PyProof.Rows L2 WW Evl
def top (i : Nat) : Stmt := PySem.Challenge.pw_watchedworks_k75_wordings_of_wishes.main.body.getD i (.Pass ⟨0, 0, 0, 0⟩)
/-- the built-in names that the program doesn't take -/
structure Gz (mg : Str → Option Value) : Prop where
  g_len : mg "len" = none
  g_isinstance : mg "isinstance" = none
  g_int : mg "int" = none
  g_bool : mg "bool" = none
  g_str : mg "str" = none
  g_list : mg "list" = none
  g_tuple : mg "tuple" = none
  g_all : mg "all" = none
  g_abs : mg "abs" = none
  g_max : mg "max" = none
  g_sorted : mg "sorted" = none
  g_range : mg "range" = none
  g_enumerate : mg "enumerate" = none
  g_set : mg "set" = none
/-- a def of the module's -/
structure Df (K : PySem.W.Frag) (mg : Str → Option Value) (x : Str) (st : Stmt) (f : Addr) (fd : FuncData) (ps : List Str) : Prop where
  fn : FunD K x x (defArgs st) (defBody st) (defScope st) [] [] f fd
  at_ : mg x = some (.ref f)
  bd : Binds K fd ps []
theorem Df.callee {P : Program} {w : World} {K : PySem.W.Frag} {mg : Str → Option Value} {base : Heap} {CX : CXT} {k : Nat} {x : Str} {st : Stmt} {f : Addr} {fd : FuncData} {ps : List Str} {sp : Sp} (D : Df K mg x st f fd ps) (ok : FnOk P w K mg base CX k f fd ps sp) : Callee P w K mg base CX k x ps.length sp :=
  ⟨f, fd, ps, rfl, ok, D.at_, D.fn.kp, D.bd⟩
def IsNm (z : Str) : Prop := 1 ≤ z.length ∧ z.length ≤ 10 ∧ ∀ c ∈ z.cps.toList, 97 ≤ c ∧ c ≤ 122
/-- room for a dict -/
theorem room1 {k : Nat} {A : Around} (r : Room k A) : A.units + 1 < cLine := by have := r.un; omega
def nmB : V → Bool
  | .str z => nmS z
  | _ => false
theorem nmB_str (z : Str) : nmB (.str z) = (decide (1 ≤ (z.length : Int)) && (decide ((z.length : Int) ≤ 10) && z.cps.toList.all fun c => lcB c)) := rfl
/-- a letter of a text -/
def chB : V → Bool
  | .str z => z.cps.toList.all fun c => lcB c
  | _ => true
/-- a thing that is neither a list nor a tuple -/
def LfD : V → PyData → Prop
  | .non, d => d = .none
  | .bl b, d => d = .bool b
  | .int i, d => d = .int i
  | .str z, d => d = .str z ∧ z.length ≤ 90000
  | _, _ => False
/-- the data d stands at v, n levels deep, none of its lists at p -/
def At (p : Addr) : Nat → Hp → V → PyData → Prop
  | 0, _, v, d => LfD v d
  | n + 1, H, v, d => LfD v d ∨ ∃ a xs ds, v = .ref a ∧ a ≠ p ∧ ((H a = some (.lst xs) ∧ d = .list ds) ∨ (H a = some (.tup xs) ∧ d = .tuple ds)) ∧ xs.length ≤ 2000 ∧ Paired (At p n H) xs ds
theorem At.leaf {p : Addr} {n : Nat} {H : Hp} {v : V} {d : PyData} (h : LfD v d) : At p n H v d := by
  cases n with
  | zero => exact h
  | succ n => exact .inl h
theorem At.el {p : Addr} {n : Nat} {H : Hp} {v : V} {d : PyData} (h : At p n H v d) : LfD v d ∨ ∃ m a xs ds, n = m + 1 ∧ v = .ref a ∧ a ≠ p ∧ ((H a = some (.lst xs) ∧ d = .list ds) ∨ (H a = some (.tup xs) ∧ d = .tuple ds)) ∧ xs.length ≤ 2000 ∧ Paired (At p m H) xs ds := by
  cases n with
  | zero => exact .inl h
  | succ n => exact h.imp id fun ⟨a, xs, ds, e⟩ => ⟨n, a, xs, ds, rfl, e⟩
theorem At.k {p : Addr} {H H' : Hp} (e : ∀ b o, b ≠ p → H b = some o → H' b = some o) : ∀ {n : Nat} {v : V} {d : PyData}, At p n H v d → At p n H' v d
  | 0, _, _, h => h
  | n + 1, _, _, h => h.imp id fun ⟨a, xs, ds, e1, np, h, l, q⟩ => ⟨a, xs, ds, e1, np, h.imp (fun z => ⟨e _ _ np z.1, z.2⟩) (fun z => ⟨e _ _ np z.1, z.2⟩), l, Paired.mapP q fun _ _ z => At.k e z⟩
theorem At.ex {p : Addr} {H H' : Hp} (e : Ex H H') {n : Nat} {v : V} {d : PyData} (h : At p n H v d) : At p n H' v d := At.k (fun b o _ z => e b o z) h
theorem At.up {p : Addr} {H : Hp} : ∀ {n : Nat} {v : V} {d : PyData}, At p n H v d → At p (n + 1) H v d
  | 0, _, _, h => .inl h
  | n + 1, _, _, h => h.imp id fun ⟨a, xs, ds, e1, np, h, l, q⟩ => ⟨a, xs, ds, e1, np, h, l, Paired.mapP q fun _ _ z => At.up z⟩
theorem At.tup {p a : Addr} {n : Nat} {H : Hp} {xs : List V} {ds : List PyData} (np : a ≠ p) (h : H a = some (.tup xs)) (l : xs.length ≤ 2000) (q : Paired (At p n H) xs ds) : At p (n + 1) H (.ref a) (.tuple ds) := .inr ⟨a, xs, ds, rfl, np, .inr ⟨h, rfl⟩, l, q⟩
theorem At.lst {p a : Addr} {n : Nat} {H : Hp} {xs : List V} {ds : List PyData} (np : a ≠ p) (h : H a = some (.lst xs)) (l : xs.length ≤ 2000) (q : Paired (At p n H) xs ds) : At p (n + 1) H (.ref a) (.list ds) := .inr ⟨a, xs, ds, rfl, np, .inl ⟨h, rfl⟩, l, q⟩
theorem LfD.pl {H : Hp} {v : V} {d : PyData} (h : LfD v d) : Pl H v := by
  cases v <;> first | exact .non | exact .bl _ | exact .int _ | exact .str _ | exact h.elim
theorem At.pl {p : Addr} {n : Nat} {H : Hp} {v : V} {d : PyData} (h : At p n H v d) : Pl H v := by
  rcases h.el with h | ⟨m, a, xs, ds, _, rfl, _, ⟨h, _⟩ | ⟨h, _⟩, _⟩
  · exact h.pl
  · exact .lst h
  · exact .tup h
theorem LfD.dp {K : PySem.W.Frag} {H : Hp} {v : V} {d : PyData} (h : LfD v d) : Dp K H v d := by
  cases v with
  | non => cases h; exact .non
  | bl b => cases h; exact .bl b
  | int i => cases h; exact .int i
  | str z => obtain ⟨rfl, _⟩ := h; exact .str z
  | _ => exact h.elim
theorem dp_all {K : PySem.W.Frag} {H : Hp} {F : V → PyData → Prop} (f : ∀ v d, F v d → Dp K H v d) : ∀ {xs : List V} {ds : List PyData}, Paired F xs ds → DpAll K H xs ds
  | _, _, .nil => .nil
  | _, _, .cons g t => .cons (f _ _ g) (dp_all f t)
theorem At.dp {p : Addr} {K : PySem.W.Frag} {H : Hp} : ∀ {n : Nat} {v : V} {d : PyData}, At p n H v d → Dp K H v d
  | 0, _, _, h => LfD.dp h
  | n + 1, _, _, h => by
    rcases h with h | ⟨a, xs, ds, rfl, _, ⟨h, rfl⟩ | ⟨h, rfl⟩, _, q⟩
    · exact h.dp
    · exact .lst (sq_of h) (dp_all (fun _ _ z => At.dp z) q)
    · exact .tup (st_of h) (dp_all (fun _ _ z => At.dp z) q)
theorem LfD.str {z : Str} (h : z.length ≤ 90000) : LfD (.str z) (.str z) := ⟨rfl, h⟩
theorem LfD.st {z : Str} (h : z.length ≤ 1000) : LfD (.str z) (.str z) := ⟨rfl, Nat.le_trans h (by decide)⟩
/-- of a text -/
theorem At.strs {p : Addr} {n : Nat} {H : Hp} {v : V} {z : Str} (h : At p n H v (.str z)) : v = .str z ∧ z.length ≤ 90000 := by
  rcases h.el with h | ⟨m, a, xs, ds, _, rfl, _, ⟨_, e⟩ | ⟨_, e⟩, _⟩
  · cases v with
    | str y => obtain ⟨e, l⟩ := h; cases e; exact ⟨rfl, l⟩
    | non => cases h
    | bl b => cases h
    | int i => cases h
    | _ => exact h.elim
  · cases e
  · cases e
theorem At.tups {p : Addr} {n : Nat} {H : Hp} {v : V} {ds : List PyData} (h : At p n H v (.tuple ds)) : ∃ m a xs, n = m + 1 ∧ v = .ref a ∧ a ≠ p ∧ H a = some (.tup xs) ∧ xs.length ≤ 2000 ∧ Paired (At p m H) xs ds := by
  rcases h.el with h | ⟨m, a, xs, es, e, rfl, np, ⟨_, e2⟩ | ⟨h, e2⟩, l, q⟩
  · cases v with
    | str y => exact nomatch h.1
    | non => cases h
    | bl b => cases h
    | int i => cases h
    | _ => exact h.elim
  · cases e2
  · cases e2
    exact ⟨m, a, xs, e, rfl, np, h, l, q⟩
theorem At.ints {p : Addr} {n : Nat} {H : Hp} {v : V} {i : Int} (h : At p n H v (.int i)) : v = .int i := by
  rcases h.el with h | ⟨m, a, xs, ds, _, rfl, _, ⟨_, e⟩ | ⟨_, e⟩, _⟩
  · cases v with
    | str y => exact nomatch h.1
    | non => cases h
    | bl b => cases h
    | int i => cases h; rfl
    | _ => exact h.elim
  · cases e
  · cases e
theorem At.bools {p : Addr} {n : Nat} {H : Hp} {v : V} {b : Bool} (h : At p n H v (.bool b)) : v = .bl b := by
  rcases h.el with h | ⟨m, a, xs, ds, _, rfl, _, ⟨_, e⟩ | ⟨_, e⟩, _⟩
  · cases v with
    | str y => exact nomatch h.1
    | non => cases h
    | bl b => cases h; rfl
    | int i => cases h
    | _ => exact h.elim
  · cases e
  · cases e
theorem At.nm {p : Addr} {n : Nat} {H : Hp} {v : V} {d : PyData} (h : At p n H v d) : nmB v = nmD d := by
  rcases h.el with h | ⟨m, a, xs, ds, _, rfl, _, ⟨_, rfl⟩ | ⟨_, rfl⟩, _⟩
  · cases v with
    | str y => obtain ⟨rfl, l⟩ := h; rfl
    | non => cases h; rfl
    | bl b => cases h; rfl
    | int i => cases h; rfl
    | _ => exact h.elim
  · rfl
  · rfl
theorem At.isS {p : Addr} {n : Nat} {H : Hp} {v : V} {d : PyData} (h : At p n H v d) (e : isS v = true) : ∃ z, v = .str z ∧ d = .str z ∧ z.length ≤ 90000 := by
  rcases h.el with h | ⟨m, a, xs, ds, _, rfl, _⟩
  · cases v with
    | str y => obtain ⟨rfl, l⟩ := h; exact ⟨y, rfl, rfl, l⟩
    | _ => exact nomatch (show false = true from e)
  · exact nomatch (show false = true from e)
theorem At.noS {p : Addr} {n : Nat} {H : Hp} {v : V} {d : PyData} (h : At p n H v d) (e : WW.isS v = false) (w : Str) : strD w d = false := by
  rcases h.el with h | ⟨m, a, xs, ds, _, rfl, _, ⟨_, rfl⟩ | ⟨_, rfl⟩, _⟩
  · cases v with
    | str y => exact nomatch (show true = false from e)
    | non => cases h; rfl
    | bl b => cases h; rfl
    | int i => cases h; rfl
    | _ => exact h.elim
  · rfl
  · rfl
theorem At.isT {p : Addr} {n : Nat} {H : Hp} {v : V} {d : PyData} (h : At p n H v d) : (∃ m a xs ds, n = m + 1 ∧ v = .ref a ∧ a ≠ p ∧ d = .tuple ds ∧ H a = some (.tup xs) ∧ xs.length ≤ 2000 ∧ Paired (At p m H) xs ds ∧ WW.isT H v = true) ∨ (WW.isT H v = false ∧ ∀ ds, d ≠ .tuple ds) := by
  rcases h.el with h | ⟨m, a, xs, ds, e, rfl, np, ⟨ha, rfl⟩ | ⟨ha, rfl⟩, l, q⟩
  · refine .inr ⟨?_, fun ds => ?_⟩
    · cases v <;> first | rfl | exact h.elim
    · rintro rfl
      cases v with
      | str y => exact nomatch h.1
      | non => cases h
      | bl b => cases h
      | int i => cases h
      | _ => exact h.elim
  · exact .inr ⟨isT_at ha, fun _ z => nomatch z⟩
  · exact .inl ⟨m, a, xs, ds, e, rfl, np, rfl, ha, l, q, isT_at ha⟩
theorem At.isB {p : Addr} {n : Nat} {H : Hp} {v : V} {d : PyData} (h : At p n H v d) : WW.isB v = flagD d := by
  rcases h.el with h | ⟨m, a, xs, ds, _, rfl, _, ⟨_, rfl⟩ | ⟨_, rfl⟩, _⟩
  · cases v with
    | str y => obtain ⟨rfl, l⟩ := h; rfl
    | non => cases h; rfl
    | bl b => cases h; rfl
    | int i => cases h; rfl
    | _ => exact h.elim
  · rfl
  · rfl
def inB (m : Int) : V → Bool
  | .int i => decide (0 ≤ i) && decide (i < m)
  | _ => false
theorem inB_no {m : Int} {v : V} (h : isI v = false) : inB m v = false := by cases v <;> first | rfl | exact nomatch (show true = false from h)
theorem At.cnt {p : Addr} {n : Nat} {H : Hp} {v : V} {d : PyData} (h : At p n H v d) : inB 1001 v = cntD d := by
  rcases h.el with h | ⟨m, a, xs, ds, _, rfl, _, ⟨_, rfl⟩ | ⟨_, rfl⟩, _⟩
  · cases v with
    | str y => obtain ⟨rfl, l⟩ := h; rfl
    | non => cases h; rfl
    | bl b => cases h; rfl
    | int i => cases h; rfl
    | _ => exact h.elim
  · rfl
  · rfl
theorem At.nmz {p : Addr} {n : Nat} {H : Hp} {v : V} {d : PyData} (h : At p n H v d) : ∀ z, v = .str z → z.length ≤ 90000 := by
  rintro z rfl
  rcases h.el with h | ⟨m, a, xs, ds, _, e, _⟩
  · exact h.2
  · cases e
theorem prd_at {α β : Type} {R : α → β → Prop} : ∀ {xs : List α} {os : List β} {i : Nat} {x : α}, Paired R xs os → xs[i]? = some x → ∃ o, os[i]? = some o ∧ R x o
  | _, _, i, _, .nil, e => by simp at e
  | _, _, 0, _, .cons g _, e => by simp at e; subst e; exact ⟨_, rfl, g⟩
  | _, _, i + 1, _, .cons _ r, e => prd_at (i := i) r (by simpa using e)
theorem prd_len {α β : Type} {R : α → β → Prop} {xs : List α} {os : List β} (h : Paired R xs os) : xs.length = os.length := Paired.length h
section
variable {P : Program} {w : World} {K : PySem.W.Frag} {mg : Str → Option Value} {base : Heap} {f : Addr} {fd : FuncData}
theorem not_both {v : V} (h : isI v = true) : isB v = false := by
  cases v <;> first | rfl | exact nomatch (show false = true from h)
abbrev s_is_integer : Stmt := top 6
theorem sc_is_integer : FnScope ["thing"] ["thing"] (defScope s_is_integer) := ⟨rfl, rfl, rfl, by decide +kernel, rfl, by decide +kernel, by decide +kernel⟩
def spIsIntegerG : Sp := fun vs H Q _ => ∃ v, vs = [v] ∧ Pl H v ∧ ∀ H', Ex H H' → Q (.bl (isI v)) H'
theorem okg_is_integer (G : Gz mg) (D : Df K mg "is_integer" s_is_integer f fd ["thing"]) : Callee P w K mg base CXn 1 "is_integer" 1 spIsIntegerG := by
  refine D.callee (D.fn.ok sc_is_integer (fun vs H Q E h => ?_) (fun cdv A outer s H vs Q E hr h => ⟨_, PSs.nox (pss_one (ps_ret (L2.pe_and (pe_callB (isiK (K := K) rfl) rfl G.g_isinstance (by rfl) (pa_cons (pv 0) (pa_cons (pe_bltn (v := .ty "int") rfl G.g_int (by rfl) rfl) pa_nil))) (pe_one (pe_not (pe_callB (isiK (K := K) rfl) rfl G.g_isinstance (by rfl) (pa_cons (pv 0) (pa_cons (pe_bltn (v := .ty "bool") rfl G.g_bool (by rfl) rfl) pa_nil)))))))), ?_⟩))
  · obtain ⟨i, rfl, _⟩ := h
    rfl
  · obtain ⟨v, rfl, hv, k⟩ := h
    obtain ⟨t, g⟩ := hv.kin (K := K)
    have q := k H (Ex.refl _)
    refine ⟨_, rfl, v, .ty "int", t, .type "int", isI v || isB v, rfl, .ty _, g.ty, g.int, isI v || isB v, rfl, ?_⟩
    cases hi : isI v with
    | true =>
      have hb := not_both hi
      rw [hi] at q
      exact ⟨_, rfl, v, .ty "bool", t, .type "bool", false, rfl, .ty _, g.ty, hb ▸ g.bool, false, rfl, q⟩
    | false =>
      rw [hi] at q
      cases hb : isB v with
      | true => exact ⟨_, rfl, v, .ty "bool", t, .type "bool", true, rfl, .ty _, g.ty, hb ▸ g.bool, true, rfl, q⟩
      | false => exact q
abbrev s_is_name : Stmt := top 8
theorem sc_is_name : FnScope ["thing", "letter"] ["thing"] (defScope s_is_name) := ⟨rfl, rfl, rfl, by decide +kernel, rfl, by decide +kernel, by decide +kernel⟩
def spIsNameG : Sp := fun vs H Q _ => ∃ v, vs = [v] ∧ Pl H v ∧ (∀ z, v = .str z → z.length ≤ 90000) ∧ ∀ H', Ex H H' → Q (.bl (nmB v)) H'
theorem okg_is_name (G : Gz mg) (gc : ∃ t, mg "MOST_LETTERS" = some (.int 10 t)) (D : Df K mg "is_name" s_is_name f fd ["thing"]) : Callee P w K mg base CXn 1 "is_name" 1 spIsNameG := by
  obtain ⟨tc, g_MOST_LETTERS⟩ := gc
  have r_MOST_LETTERS : RelV (.int 10) (.int 10 tc) := ⟨_, rfl⟩
  refine D.callee (D.fn.ok sc_is_name (fun vs H Q E h => ?_) (fun cdv A outer s H vs Q E hr h => ⟨_, PSs.nox (pss_cons (ps_if (PW.pt (pw_or (pt_not (pt_val (pe_callB (isiK (K := K) rfl) rfl G.g_isinstance (by rfl) (pa_cons (pv 0) (pa_cons (pe_bltn (v := .ty "str") rfl G.g_str (by rfl) rfl) pa_nil))))) (pw_or1 (pt_not (pt_chain op_le op_le pe_int (pe_callB (lenK (K := K) rfl) rfl G.g_len PySem.boot_len (pa_cons (pv 0) pa_nil)) (pe_glob rfl g_MOST_LETTERS r_MOST_LETTERS)))))) (pss_one (ps_ret pe_bl)) pss_nil) (pss_one (ps_ret (pe_callB (cr_all rfl) rfl G.g_all (by rfl) (pa_cons (pe_lc (own := [("letter", 1)]) rfl sc_is_name.nd (pi_str (pv 0)) (BlkOk.mk (N := ["thing", "letter"]) (sc := defScope s_is_name) rfl (by decide +kernel) (by decide +kernel) (by decide +kernel) (by decide +kernel)) (fun _ _ _ _ _ => (pg_name (i := 1) sc_is_name.nd rfl (Or.inl rfl))) (fun _ _ _ _ _ => pts_nil) (fun _ _ _ _ _ => (pe_chain op_le_str op_le_str pe_str (pv 1) pe_str))) pa_nil))))), ?_⟩))
  · obtain ⟨i, rfl, _⟩ := h
    rfl
  · obtain ⟨v, rfl, hv, hz, k⟩ := h
    obtain ⟨t, g⟩ := hv.kin (K := K)
    refine ⟨_, rfl, v, .ty "str", t, .type "str", isS v, rfl, .ty _, g.ty, g.str, isS v, rfl, ?_⟩
    have q0 := k H (Ex.refl _)
    cases v with
    | str z =>
      have hl : LenV K (.str z) H z.length := ⟨Nat.le_trans (hz z rfl) (by decide), rfl⟩
      refine iteF ⟨_, rfl, .str z, z.length, rfl, hl, 1, (z.length : Int), rfl, rfl, decide ((1 : Int) ≤ (z.length : Int)), rfl, ?_⟩
      cases h1 : decide ((1 : Int) ≤ (z.length : Int)) with
      | false =>
        have e : nmB (.str z) = false := by rw [nmB_str, h1]; rfl
        rw [e] at q0
        exact ⟨false, rfl, iteT q0⟩
      | true =>
        refine ⟨(z.length : Int), 10, rfl, rfl, decide ((z.length : Int) ≤ 10), rfl, ?_⟩
        cases h2 : decide ((z.length : Int) ≤ 10) with
        | false =>
          have e : nmB (.str z) = false := by rw [nmB_str, h1, h2]; rfl
          rw [e] at q0
          exact iteT q0
        | true =>
          have e : nmB (.str z) = z.cps.toList.all fun c => lcB c := by rw [nmB_str, h1, h2]; rfl
          rw [e] at k
          refine iteF ?_
          refine ⟨.str z, rfl, z, rfl, fun D hD => ?_⟩
          refine lc_ev (f := fun _ => true) (v := fun x => .bl (chB x)) st_s (by rw [chs_len]; have := hz z rfl; omega) (fun x => rfl) hD (fun x _ H1 e Q q => q H1 (Ex.refl _)) (fun x hx _ H1 e Q q => ?_) (fun H' e hd => ?_)
          · obtain ⟨c, hm, rfl⟩ : ∃ c, c ∈ z.cps.toList ∧ V.str ⟨#[c]⟩ = x := by unfold chs at hx; simpa using hx
            have q1 := q H1 (Ex.refl _)
            have ec : chB (.str ⟨#[c]⟩) = lcB c := by show ([c].all fun c => lcB c) = _; simp
            rw [ec] at q1
            refine ⟨_, rfl, (Str.ofString "a"), ⟨#[c]⟩, rfl, rfl, _, rfl, ?_⟩
            have e1 : (!decide ((⟨#[c]⟩ : Str).cps.toList < (Str.ofString "a").cps.toList)) = decide (97 ≤ c) := by
              have : (Str.ofString "a").cps.toList = [97] := by decide +kernel
              rw [this]
              rw [Bool.eq_iff_iff]
              simp [List.cons_lt_cons_iff]
            have e2 : (!decide ((Str.ofString "z").cps.toList < (⟨#[c]⟩ : Str).cps.toList)) = decide (c ≤ 122) := by
              have : (Str.ofString "z").cps.toList = [122] := by decide +kernel
              rw [this]
              rw [Bool.eq_iff_iff]
              simp [List.cons_lt_cons_iff]
            rw [e1]
            cases h3 : decide (97 ≤ c) with
            | false =>
              have e4 : lcB c = false := by unfold lcB; rw [h3]; rfl
              rw [e4] at q1
              exact q1
            | true =>
              have e4 : lcB c = decide (c ≤ 122) := by unfold lcB; rw [h3]; rfl
              rw [e4] at q1
              refine ⟨⟨#[c]⟩, (Str.ofString "z"), rfl, rfl, ?_⟩
              rw [e2]
              exact q1
          · refine ⟨D, (chs z).map chB, rfl, sq_of ?_, ?_⟩
            · rw [hd, List.filter_eq_self.mpr (fun _ _ => rfl), List.map_map]
              rfl
            · have e3 : ((chs z).map chB).all id = z.cps.toList.all fun c => lcB c := by
                unfold chs
                rw [List.map_map, List.all_map]
                congr 1
                funext c
                show ([c].all fun c => lcB c) = _
                simp
              rw [e3]
              exact k H' e
    | _ => exact iteT q0
abbrev s_is_flag : Stmt := top 7
theorem sc_is_flag : FnScope ["thing"] ["thing"] (defScope s_is_flag) := ⟨rfl, rfl, rfl, by decide +kernel, rfl, by decide +kernel, by decide +kernel⟩
def spIsFlag : Sp := fun vs H Q _ => ∃ v, vs = [v] ∧ Pl H v ∧ ∀ H', Ex H H' → Q (.bl (isB v)) H'
theorem ok_is_flag (G : Gz mg) (D : Df K mg "is_flag" s_is_flag f fd ["thing"]) : Callee P w K mg base CXn 1 "is_flag" 1 spIsFlag := by
  refine D.callee (D.fn.ok sc_is_flag (fun vs H Q E h => ?_) (fun cdv A outer s H vs Q E hr h => ⟨_, PSs.nox (pss_one (ps_ret (pe_callB (isiK (K := K) rfl) rfl G.g_isinstance (by rfl) (pa_cons (pv 0) (pa_cons (pe_bltn (v := .ty "bool") rfl G.g_bool (by rfl) rfl) pa_nil))))), ?_⟩))
  · obtain ⟨i, rfl, _⟩ := h
    rfl
  · obtain ⟨v, rfl, hv, k⟩ := h
    obtain ⟨t, g⟩ := hv.kin (K := K)
    exact ⟨_, rfl, v, .ty "bool", t, .type "bool", isB v, rfl, .ty _, g.ty, g.bool, k H (Ex.refl _)⟩
def lenD : PyData → Int → Bool
  | .tuple ds, m => decide (V.int ds.length = V.int m)
  | _, _ => false
abbrev s_is_tuple_of : Stmt := top 9
theorem sc_is_tuple_of : FnScope ["thing", "many"] ["thing", "many"] (defScope s_is_tuple_of) := ⟨rfl, rfl, rfl, by decide +kernel, rfl, by decide +kernel, by decide +kernel⟩
def spIsTupOf : Sp := fun vs H Q _ => ∃ p n v d m, vs = [v, .int m] ∧ At p n H v d ∧ ∀ H', Ex H H' → Q (.bl (lenD d m)) H'
theorem ok_is_tuple_of (G : Gz mg) (D : Df K mg "is_tuple_of" s_is_tuple_of f fd ["thing", "many"]) : Callee P w K mg base CXn 1 "is_tuple_of" 2 spIsTupOf := by
  refine D.callee (D.fn.ok sc_is_tuple_of (fun vs H Q E h => ?_) (fun cdv A outer s H vs Q E hr h => ⟨_, PSs.nox (pss_one (ps_ret (L2.pe_and (pe_callB (isiK (K := K) rfl) rfl G.g_isinstance (by rfl) (pa_cons (pv 0) (pa_cons (pe_bltn (v := .ty "tuple") rfl G.g_tuple (by rfl) rfl) pa_nil))) (pe_one (pe_cmpR op_eq (pe_callB (lenK (K := K) rfl) rfl G.g_len PySem.boot_len (pa_cons (pv 0) pa_nil)) (pv 1) (nomark _)))))), ?_⟩))
  · obtain ⟨_, _, _, _, _, rfl, _⟩ := h
    rfl
  · obtain ⟨p, n, v, d, m, rfl, hv, k⟩ := h
    obtain ⟨t, g⟩ := hv.pl.kin (K := K)
    have q := k H (Ex.refl _)
    refine ⟨_, rfl, v, .ty "tuple", t, .type "tuple", isT H v, rfl, .ty _, g.ty, g.tuple, isT H v, rfl, ?_⟩
    rcases hv.isT with ⟨m', a, xs, ds, _, rfl, np, rfl, ha, l, pr, e⟩ | ⟨e, nt⟩
    · rw [e]
      refine ⟨_, rfl, .ref a, xs.length, rfl, .inr ⟨_, st_of ha, rfl⟩, _, rfl, rfl, ?_⟩
      rw [prd_len pr]
      exact q
    · rw [e]
      rw [show lenD d m = false by cases d <;> first | rfl | exact absurd rfl (nt _)] at q
      exact q
abbrev s_is_index : Stmt := top 10
theorem sc_is_index : FnScope ["thing", "many"] ["thing", "many"] (defScope s_is_index) := ⟨rfl, rfl, rfl, by decide +kernel, rfl, by decide +kernel, by decide +kernel⟩
def spIsIndexG : Sp := fun vs H Q _ => ∃ v m, vs = [v, .int m] ∧ Pl H v ∧ ∀ H', Ex H H' → Q (.bl (inB m v)) H'
theorem okg_is_index (D : Df K mg "is_index" s_is_index f fd ["thing", "many"]) (c_is_integer : Callee P w K mg base CXn 1 "is_integer" 1 spIsIntegerG) : Callee P w K mg base CXn 2 "is_index" 2 spIsIndexG := by
  refine D.callee (D.fn.ok sc_is_index (fun vs H Q E h => ?_) (fun cdv A outer s H vs Q E hr h => ⟨_, PSs.nox (pss_one (ps_ret (L2.pe_and (pe_cl (E := En) c_is_integer (hr.mono (by decide)) rfl passN (pa_cons (pv 0) pa_nil)) (pe_one (pe_chain op_le op_lt pe_int (pv 0) (pv 1)))))), ?_⟩))
  · obtain ⟨_, _, rfl, _⟩ := h
    rfl
  · obtain ⟨v, m, rfl, hv, k⟩ := h
    refine ⟨_, rfl, v, rfl, hv, fun H1 e1 => ⟨_, rfl, ?_⟩⟩
    have q := k H1 e1
    cases hi : isI v with
    | false =>
      rw [inB_no hi] at q
      exact q
    | true =>
      cases v with
      | int i =>
        have e : inB m (.int i) = (decide (0 ≤ i) && decide (i < m)) := rfl
        rw [e] at q
        refine ⟨_, rfl, 0, i, rfl, rfl, decide ((0 : Int) ≤ i), rfl, ?_⟩
        cases hd : decide ((0 : Int) ≤ i) with
        | false =>
          rw [hd] at q
          exact q
        | true =>
          rw [hd] at q
          exact ⟨_, rfl, i, m, rfl, rfl, q⟩
      | _ => exact nomatch (show false = true from hi)
abbrev s_is_count : Stmt := top 13
theorem sc_is_count : FnScope ["thing"] ["thing"] (defScope s_is_count) := ⟨rfl, rfl, rfl, by decide +kernel, rfl, by decide +kernel, by decide +kernel⟩
def spIsCount : Sp := fun vs H Q _ => ∃ v, vs = [v] ∧ Pl H v ∧ ∀ H', Ex H H' → Q (.bl (inB 1001 v)) H'
theorem ok_is_count (gc : ∃ t, mg "MOST_COUNT" = some (.int 1000 t)) (D : Df K mg "is_count" s_is_count f fd ["thing"]) (c_is_index : Callee P w K mg base CXn 2 "is_index" 2 spIsIndexG) : Callee P w K mg base CXn 3 "is_count" 1 spIsCount := by
  obtain ⟨tc, g_MOST_COUNT⟩ := gc
  have r_MOST_COUNT : RelV (.int 1000) (.int 1000 tc) := ⟨_, rfl⟩
  refine D.callee (D.fn.ok sc_is_count (fun vs H Q E h => ?_) (fun cdv A outer s H vs Q E hr h => ⟨_, PSs.nox (pss_one (ps_ret (pe_cl (E := En) c_is_index (hr.mono (by decide)) rfl passN (pa_cons (pv 0) (pa_cons (pe_op op_add (pe_glob rfl g_MOST_COUNT r_MOST_COUNT) pe_int) pa_nil))))), ?_⟩))
  · obtain ⟨_, rfl, _⟩ := h
    rfl
  · obtain ⟨v, rfl, hv, k⟩ := h
    exact ⟨_, rfl, 1000, 1, rfl, rfl, v, 1001, rfl, hv, fun H1 e1 => k H1 e1⟩
abbrev s_is_word : Stmt := top 21
theorem sc_is_word : FnScope ["thing", "word"] ["thing", "word"] (defScope s_is_word) := ⟨rfl, rfl, rfl, by decide +kernel, rfl, by decide +kernel, by decide +kernel⟩
def spIsWord : Sp := fun vs H Q _ => ∃ p n v d z, vs = [v, .str z] ∧ At p n H v d ∧ ∀ H', Ex H H' → Q (.bl (strD z d)) H'
theorem ok_is_word (G : Gz mg) (D : Df K mg "is_word" s_is_word f fd ["thing", "word"]) : Callee P w K mg base CXn 1 "is_word" 2 spIsWord := by
  refine D.callee (D.fn.ok sc_is_word (fun vs H Q E h => ?_) (fun cdv A outer s H vs Q E hr h => ⟨_, PSs.nox (pss_one (ps_ret (L2.pe_and (pe_callB (isiK (K := K) rfl) rfl G.g_isinstance (by rfl) (pa_cons (pv 0) (pa_cons (pe_bltn (v := .ty "str") rfl G.g_str (by rfl) rfl) pa_nil))) (pe_one (pe_cmpR op_eq (pv 0) (pv 1) (nomark _)))))), ?_⟩))
  · obtain ⟨_, _, _, _, _, rfl, _⟩ := h
    rfl
  · obtain ⟨p, n, v, d, z, rfl, hv, k⟩ := h
    obtain ⟨t, g⟩ := hv.pl.kin (K := K)
    have q := k H (Ex.refl _)
    refine ⟨_, rfl, v, .ty "str", t, .type "str", isS v, rfl, .ty _, g.ty, g.str, isS v, rfl, ?_⟩
    cases e : isS v with
    | true =>
      obtain ⟨y, rfl, rfl, l⟩ := hv.isS e
      refine ⟨_, rfl, _, rfl, rfl, ?_⟩
      have e2 : decide (V.str y = V.str z) = strD z (.str y) := by
        show _ = decide (y = z)
        rw [decide_eq_decide]
        exact ⟨fun q => V.str.inj q, fun q => by rw [q]⟩
      rw [e2]
      exact q
    | false =>
      rw [hv.noS e z] at q
      exact q
end
end WK

set_option Elab.async false
set_option linter.all false
set_option maxRecDepth 100000
set_option maxHeartbeats 4000000
namespace WK
open PySem PySem.Spec PyProof.Rows L2 WW Evl
/-- the pool stands at p -/
def Pool (H : Hp) (p : Addr) : Prop := ∃ (g s : Addr) (n k : Int) (gs ss : List Int), H p = some (.lst [.ref g, .ref s, .int n, .int k]) ∧ g ≠ p ∧ s ≠ p ∧ 0 ≤ n ∧ 0 ≤ k ∧
  H g = some (.lst (gs.map V.int)) ∧ (∀ x ∈ gs, 0 ≤ x) ∧ gs.length ≤ 63 ∧ H s = some (.lst (ss.map V.int)) ∧ (∀ x ∈ ss, 0 ≤ x ∧ x < 1000003) ∧ ss.length ≤ 63
/-- all but the pool is kept -/
def K0 (p : Addr) (H H' : Hp) : Prop := ∀ b o, b ≠ p → H b = some o → H' b = some o
/-- b is no part of the pool -/
def Apart (H : Hp) (p b : Addr) : Prop := ∀ (g s : Addr) (n k : V), H p = some (.lst [.ref g, .ref s, n, k]) → g ≠ b ∧ s ≠ b
structure Kp (p : Addr) (H H' : Hp) : Prop where
  k : K0 p H H'
  a : ∀ b, b ≠ p → H b ≠ none → Apart H p b → Apart H' p b
theorem K0.refl (p : Addr) (H : Hp) : K0 p H H := fun _ _ _ h => h
theorem K0.trans {p : Addr} {H H1 H2 : Hp} (a : K0 p H H1) (b : K0 p H1 H2) : K0 p H H2 := fun c o n h => b c o n (a c o n h)
theorem K0.ex {p : Addr} {H H' : Hp} (e : Ex H H') : K0 p H H' := fun b o _ h => e b o h
theorem K0.new {p l : Addr} {o : HO} {H H' : Hp} (a : K0 p H H') (hl : H' l = none) : K0 p H (upd H' l o) := a.trans (K0.ex (Ex.new hl))
theorem K0.put {p : Addr} {o : HO} {H H' : Hp} (a : K0 p H H') : K0 p H (upd H' p o) := fun b u n h => by
  rw [upd_ne n]
  exact a b u n h
theorem some_ne {α : Type} {o : Option α} {x : α} (h : o = some x) : o ≠ none := fun z => by rw [h] at z; cases z
theorem Kp.refl (p : Addr) (H : Hp) : Kp p H H := ⟨K0.refl p H, fun _ _ _ h => h⟩
theorem Kp.trans {p : Addr} {H H1 H2 : Hp} (a : Kp p H H1) (b : Kp p H1 H2) : Kp p H H2 := ⟨a.k.trans b.k, fun c n h x => b.a c n (by
  cases e : H c with
  | none => exact absurd e h
  | some o => exact some_ne (a.k c o n e)) (a.a c n h x)⟩
theorem Pool.here {H : Hp} {p : Addr} (h : Pool H p) : H p ≠ none := by
  obtain ⟨g, s, n, k, gs, ss, h1, _⟩ := h
  exact some_ne h1
theorem Kp.ex {p : Addr} {H H' : Hp} (e : Ex H H') (hp : Pool H p) : Kp p H H' := ⟨K0.ex e, fun b n hb x g s n k h => by
  obtain ⟨g0, s0, n0, k0, gs, ss, h1, _⟩ := hp
  have h2 := e _ _ h1
  rw [h] at h2
  cases h2
  exact x _ _ _ _ h1⟩
theorem Kp.of {p g s g' : Addr} {n k n' k' : V} {H H' : Hp} (h1 : K0 p H H') (hp : H p = some (.lst [.ref g, .ref s, n, k])) (hp' : H' p = some (.lst [.ref g', .ref s, n', k'])) (hg : g' = g ∨ H g' = none) : Kp p H H' := ⟨h1, fun b nb hb x g2 s2 n2 k2 h => by
  rw [hp'] at h
  cases h
  obtain ⟨a1, a2⟩ := x _ _ _ _ hp
  refine ⟨?_, a2⟩
  rcases hg with rfl | hg
  · exact a1
  · intro z
    rw [← z] at hb
    exact hb hg⟩
theorem Kp.new {p l : Addr} {o : HO} {H H' : Hp} (a : Kp p H H') (hP : Pool H' p) (hl : H' l = none) : Kp p H (upd H' l o) := a.trans (Kp.ex (Ex.new hl) hP)
/-- a thing that came behind H changes -/
theorem Kp.mut {p D : Addr} {o : HO} {H H' : Hp} (a : Kp p H H') (hD : H D = none) (nD : D ≠ p) : Kp p H (upd H' D o) := ⟨fun b u n h => by
    rw [upd_ne (ne_of_none h hD)]
    exact a.k b u n h, fun b nb hb x g s n k h => by
    rw [upd_ne nD.symm] at h
    exact a.a b nb hb x g s n k h⟩
theorem Pool.ex {p : Addr} {H H' : Hp} (e : Ex H H') (h : Pool H p) : Pool H' p := by
  obtain ⟨g, s, n, k, gs, ss, h1, h2, h3, h4, h5, h6, h7, h8, h9, h10, h11⟩ := h
  exact ⟨g, s, n, k, gs, ss, e _ _ h1, h2, h3, h4, h5, e _ _ h6, h7, h8, e _ _ h9, h10, h11⟩
theorem Pool.mut {p D : Addr} {o : HO} {H : Hp} (h : Pool H p) (nD : D ≠ p) (x : Apart H p D) : Pool (upd H D o) p := by
  obtain ⟨g, s, n, k, gs, ss, h1, h2, h3, h4, h5, h6, h7, h8, h9, h10, h11⟩ := h
  obtain ⟨a1, a2⟩ := x _ _ _ _ h1
  exact ⟨g, s, n, k, gs, ss, by rw [upd_ne nD.symm]; exact h1, h2, h3, h4, h5, by rw [upd_ne a1]; exact h6, h7, h8, by rw [upd_ne a2]; exact h9, h10, h11⟩
/-- what is new is no part of the pool -/
theorem Apart.new {p D : Addr} {o : HO} {H : Hp} (h : Pool H p) (hD : H D = none) : D ≠ p ∧ Apart (upd H D o) p D := by
  obtain ⟨g, s, n, k, gs, ss, h1, h2, h3, h4, h5, h6, h7, h8, h9, h10, h11⟩ := h
  have nD : p ≠ D := ne_of_none h1 hD
  refine ⟨nD.symm, fun g2 s2 n2 k2 e => ?_⟩
  rw [upd_ne nD, h1] at e
  cases e
  exact ⟨ne_of_none h6 hD, ne_of_none h9 hD⟩
theorem Apart.mut {p D b : Addr} {o : HO} {H : Hp} (nD : D ≠ p) (x : Apart H p b) : Apart (upd H D o) p b := fun g s n k h => by
  rw [upd_ne nD.symm] at h
  exact x g s n k h
/-- what is free behind was free before -/
theorem Kp.free {p D : Addr} {H H' : Hp} (a : Kp p H H') (h : Pool H' p) (hD : H' D = none) : H D = none ∧ D ≠ p := by
  have nD : D ≠ p := fun z => h.here (z ▸ hD)
  refine ⟨?_, nD⟩
  cases e : H D with
  | none => rfl
  | some o =>
    rw [a.k D o nD e] at hD
    cases hD
def absV : V → V
  | .int i => .int (if i < 0 then -i else i)
  | v => v
def geV : V → Bool
  | .int i => decide ((10 : Int) ^ 18 ≤ i)
  | _ => false
def ltV : V → Bool
  | .int i => decide (i < (10 : Int) ^ 18)
  | _ => false
def modV : V → V
  | .int i => .int (i % 1000003)
  | v => v
section
variable {P : Program} {w : World} {K : PySem.W.Frag} {mg : Str → Option Value} {base : Heap} {f : Addr} {fd : FuncData}
abbrev s__law_pool : Stmt := top 39
theorem sc__law_pool : FnScope ["_law_script", "_law_cells", "_law_cell", "_law_great", "_law_small"] ["_law_script"] (defScope s__law_pool) := ⟨rfl, rfl, rfl, by decide +kernel, rfl, by decide +kernel, by decide +kernel⟩
def spPool (K : PySem.W.Frag) : Sp := fun vs H Q _ => ∃ (a : Addr) (ns : List Int), vs = [.ref a] ∧ SqL K H a (ns.map V.int) ∧ ∀ p H', Ex H H' → H p = none → Pool H' p → Q (.ref p) H'
theorem ok_pool (G : Gz mg) (D : Df K mg "_law_pool" s__law_pool f fd ["_law_script"]) : Callee P w K mg base CXn 1 "_law_pool" 1 (spPool K) := by
  refine D.callee (D.fn.ok sc__law_pool (fun vs H Q E h => ?_) (fun cdv A outer s H vs Q E hr h => ⟨_, PSs.nox (pss_cons (ps_setLc (i := 1) (y := "_law_cells") (own := [("_law_cell", 2)]) rfl sc__law_pool.nd rfl rfl rfl (pi_list (pe_slice sl_list (pv 0) po_none (po_some pe_int))) (BlkOk.mk (N := ["_law_script", "_law_cells", "_law_cell", "_law_great", "_law_small"]) (sc := defScope s__law_pool) rfl (by decide +kernel) (by decide +kernel) (by decide +kernel) (by decide +kernel)) (fun _ _ _ _ _ => (pg_name (i := 2) sc__law_pool.nd rfl (Or.inl rfl))) (fun _ _ _ _ _ => pts_nil) (fun _ _ _ _ _ => (pe_callB call_abs rfl G.g_abs (by rfl) (pa_cons (pe_callTy call_int1 rfl G.g_int (by rfl) (pa_cons (pv 2) pa_nil)) pa_nil)))) (pss_cons (ps_setLc (i := 3) (y := "_law_great") (own := [("_law_cell", 2)]) rfl sc__law_pool.nd rfl rfl rfl (pi_list (pv 1)) (BlkOk.mk (N := ["_law_script", "_law_cells", "_law_cell", "_law_great", "_law_small"]) (sc := defScope s__law_pool) rfl (by decide +kernel) (by decide +kernel) (by decide +kernel) (by decide +kernel)) (fun _ _ _ _ _ => (pg_name (i := 2) sc__law_pool.nd rfl (Or.inl rfl))) (fun _ _ _ _ _ => (pts_one (pt_cmpR op_ge (pv 2) (pe_op op_pow pe_int pe_int) (nomark _)))) (fun _ _ _ _ _ => (pv 2))) (pss_cons (ps_setLc (i := 4) (y := "_law_small") (own := [("_law_cell", 2)]) rfl sc__law_pool.nd rfl rfl rfl (pi_list (pv 1)) (BlkOk.mk (N := ["_law_script", "_law_cells", "_law_cell", "_law_great", "_law_small"]) (sc := defScope s__law_pool) rfl (by decide +kernel) (by decide +kernel) (by decide +kernel) (by decide +kernel)) (fun _ _ _ _ _ => (pg_name (i := 2) sc__law_pool.nd rfl (Or.inl rfl))) (fun _ _ _ _ _ => (pts_one (pt_cmpR op_lt (pv 2) (pe_op op_pow pe_int pe_int) (nomark _)))) (fun _ _ _ _ _ => (pe_op op_mod (pe_callTy call_int1 rfl G.g_int (by rfl) (pa_cons (pv 2) pa_nil)) pe_int))) (pss_one (ps_ret (pe_lst (pa_cons (pv 3) (pa_cons (pv 4) (pa_cons pe_int (pa_cons pe_int pa_nil)))))))))), ?_⟩))
  · obtain ⟨_, _, rfl, _⟩ := h
    rfl
  · obtain ⟨a, ns, rfl, hS, k⟩ := h
    refine ⟨.ref a, rfl, 63, rfl, a, _, rfl, hS, fun p hp => ⟨p, rfl, ⟨_, sq_of upd_same⟩, fun D hD => ?_⟩⟩
    have ec : cutV (ns.map V.int) none (some 63) = (ns.take 63).map V.int := by
      have e := cut_take (ns.map V.int) 63
      rw [← List.map_take] at e
      exact e
    rw [ec] at hD ⊢
    have l63 : ((ns.take 63).map V.int).length ≤ 63 := by rw [List.length_map, List.length_take]; omega
    refine lc_ev (f := fun _ => true) (v := absV) (st_l (sq_of upd_same)) (by omega) (fun x => rfl) hD (fun x _ H1 e Q q => q H1 (Ex.refl _)) (fun x hx _ H1 e Q q => ?_) (fun H1 e1 hd1 => ?_)
    · obtain ⟨i, _, rfl⟩ := List.mem_map.mp hx
      exact ⟨_, rfl, .inl ⟨i, rfl, i, rfl, q H1 (Ex.refl _)⟩⟩
    generalize hcs : (ns.take 63).map (fun i : Int => if i < 0 then -i else i) = cs
    have d1 : H1 D = some (.lst (cs.map V.int)) := by
      rw [hd1, List.filter_eq_self.mpr (fun _ _ => rfl), ← hcs, List.map_map, List.map_map]
      rfl
    have lcs : cs.length ≤ 63 := by rw [← hcs, List.length_map, List.length_take]; omega
    have pcs : ∀ x ∈ cs, 0 ≤ x := fun x hx => by
      rw [← hcs] at hx
      obtain ⟨i, _, rfl⟩ := List.mem_map.mp hx
      split <;> omega
    refine ⟨_, rfl, D, rfl, ⟨_, sq_of d1⟩, fun D2 hD2 => ?_⟩
    refine lc_ev (f := geV) (v := fun x => x) (st_l (sq_of d1)) (by rw [List.length_map]; omega) (fun x => rfl) hD2 (fun x hx H2 e Q q => ?_) (fun x hx _ H2 e Q q => ⟨_, rfl, q H2 (Ex.refl _)⟩) (fun H2 e2 hd2 => ?_)
    · obtain ⟨i, _, rfl⟩ := List.mem_map.mp hx
      exact ⟨_, rfl, 10, 18, rfl, rfl, ⟨by decide, by decide, by decide⟩, i, _, rfl, rfl, _, rfl, q H2 (Ex.refl _)⟩
    have d2 : H2 D2 = some (.lst ((cs.filter fun i => decide ((10 : Int) ^ 18 ≤ i)).map V.int)) := by
      rw [hd2, List.map_id'' (fun _ => rfl), List.filter_map]
      rfl
    have d12 := e2 _ _ d1
    refine ⟨_, rfl, D, rfl, ⟨_, sq_of d12⟩, fun D3 hD3 => ?_⟩
    refine lc_ev (f := ltV) (v := modV) (st_l (sq_of d12)) (by rw [List.length_map]; omega) (fun x => rfl) hD3 (fun x hx H3 e Q q => ?_) (fun x hx _ H3 e Q q => ?_) (fun H3 e3 hd3 => ?_)
    · obtain ⟨i, _, rfl⟩ := List.mem_map.mp hx
      exact ⟨_, rfl, 10, 18, rfl, rfl, ⟨by decide, by decide, by decide⟩, i, _, rfl, rfl, _, rfl, q H3 (Ex.refl _)⟩
    · obtain ⟨i, _, rfl⟩ := List.mem_map.mp hx
      exact ⟨_, rfl, .inl ⟨i, rfl, i, 1000003, rfl, rfl, (by show (0 : Int) < 1000003; decide), q H3 (Ex.refl _)⟩⟩
    have d3 : H3 D3 = some (.lst (((cs.filter fun i => decide (i < (10 : Int) ^ 18)).map fun i => i % 1000003).map V.int)) := by
      rw [hd3, List.filter_map, List.map_map, List.map_map]
      rfl
    have d23 := e3 _ _ d2
    refine ⟨_, rfl, _, rfl, (by show 4 ≤ sizeLine; decide), fun q hq => ?_⟩
    have e03 : Ex H H3 := (Ex.new hp).trans (e1.trans (e2.trans e3))
    have e04 : Ex H (upd H3 q (.lst [.ref D2, .ref D3, .int 0, .int 0])) := e03.trans (Ex.new hq)
    refine k q _ e04 (fresh_back e03 hq) ⟨D2, D3, 0, 0, (cs.filter fun i => decide ((10 : Int) ^ 18 ≤ i)), ((cs.filter fun i => decide (i < (10 : Int) ^ 18)).map fun i => i % 1000003), upd_same, ne_of_none d23 hq, ne_of_none d3 hq, Int.le_refl _, Int.le_refl _, ?_, ?_, ?_, ?_, ?_, ?_⟩
    · rw [upd_ne (ne_of_none d23 hq)]; exact d23
    · exact fun x hx => pcs x (List.mem_filter.mp hx).1
    · exact Nat.le_trans (List.length_filter_le _ _) lcs
    · rw [upd_ne (ne_of_none d3 hq)]; exact d3
    · intro x hx
      obtain ⟨i, hi, rfl⟩ := List.mem_map.mp hx
      exact ⟨Int.emod_nonneg _ (by decide), Int.emod_lt_of_pos _ (by decide)⟩
    · rw [List.length_map]
      exact Nat.le_trans (List.length_filter_le _ _) lcs
abbrev s__law_draw : Stmt := top 40
theorem sc__law_draw : FnScope ["_law_pool_here", "_law_many", "_law_great", "_law_digit", "_law_seed", "_law_number_here"] ["_law_pool_here", "_law_many"] (defScope s__law_draw) := ⟨rfl, rfl, rfl, by decide +kernel, rfl, by decide +kernel, by decide +kernel⟩
def spDraw : Sp := fun vs H Q _ => ∃ (p : Addr) (m : Int), vs = [.ref p, .int m] ∧ Pool H p ∧ 1 ≤ m ∧ m ≤ 1000000 ∧ ∀ d H', 0 ≤ d → d < m → Kp p H H' → Pool H' p → Q (.int d) H'
theorem ok_draw (G : Gz mg) (D : Df K mg "_law_draw" s__law_draw f fd ["_law_pool_here", "_law_many"]) : Callee P w K mg base CXn 1 "_law_draw" 2 spDraw := by
  refine D.callee (D.fn.ok sc__law_draw (fun vs H Q E h => ?_) (fun cdv A outer s H vs Q E hr h => ⟨_, PSs.nox (pss_cut (ps_if (PW.pt (pw_and (pt_cmpR op_eq (pe_ix (ixK (K := K) rfl) (pv 0) pe_int (fun _ _ => rfl)) pe_int (nomark _)) (pw_and1 (pt_cmpR op_gt (pe_callB (lenK (K := K) rfl) rfl G.g_len PySem.boot_len (pa_cons (pe_ix (ixK (K := K) rfl) (pv 0) pe_int (fun _ _ => rfl)) pa_nil)) pe_int (nomark _))))) (pss_cons (ps_set (i := 2) sc__law_draw.nd rfl (Or.inl rfl) (pe_ix (ixK (K := K) rfl) (pv 0) pe_int (fun _ _ => rfl))) (pss_one (ps_asg (pe_tup (pa_cons (pe_ix (ixK (K := K) rfl) (pv 2) pe_int (fun _ _ => rfl)) (pa_cons (pe_slice sl_list (pv 2) (po_some pe_int) po_none) pa_nil))) (pg_tup rfl (pgs_cons (pg_sub (pv 0) pe_int set_list) (pgs_cons (pg_sub (pv 0) pe_int set_list) pgs_nil)))))) pss_nil) (pss_cut (ps_if (pt_cmpR op_gt (pe_ix (ixK (K := K) rfl) (pv 0) pe_int (fun _ _ => rfl)) pe_int (nomark _)) (pss_cons (ps_asg (pe_tup (pa_cons (pe_op op_mod (pe_callTy call_int1 rfl G.g_int (by rfl) (pa_cons (pe_ix (ixK (K := K) rfl) (pv 0) pe_int (fun _ _ => rfl)) pa_nil)) (pv 1)) (pa_cons (pe_op op_fdiv (pe_ix (ixK (K := K) rfl) (pv 0) pe_int (fun _ _ => rfl)) (pv 1)) pa_nil))) (pg_tup rfl (pgs_cons (pg_name (i := 3) sc__law_draw.nd rfl (Or.inl rfl)) (pgs_cons (pg_sub (pv 0) pe_int set_list) pgs_nil)))) (pss_one (ps_ret (pv 3)))) pss_nil) (pss_cons (ps_asg (pe_op op_add (pe_ix (ixK (K := K) rfl) (pv 0) pe_int (fun _ _ => rfl)) pe_int) (pg_sub (pv 0) pe_int set_list)) (pss_cons (ps_set (i := 4) sc__law_draw.nd rfl (Or.inl rfl) (pe_ix (ixK (K := K) rfl) (pe_op op_cat (pe_ix (ixK (K := K) rfl) (pv 0) pe_int (fun _ _ => rfl)) (pe_lst (pa_cons pe_int pa_nil))) (pe_op op_mod (pe_callTy call_int1 rfl G.g_int (by rfl) (pa_cons (pe_ix (ixK (K := K) rfl) (pv 0) pe_int (fun _ _ => rfl)) pa_nil)) (pe_callB (call_max2 rfl) rfl G.g_max (by rfl) (pa_cons pe_int (pa_cons (pe_callB (lenK (K := K) rfl) rfl G.g_len PySem.boot_len (pa_cons (pe_ix (ixK (K := K) rfl) (pv 0) pe_int (fun _ _ => rfl)) pa_nil)) pa_nil)))) (fun _ _ => rfl))) (pss_cons (ps_set (i := 5) sc__law_draw.nd rfl (Or.inl rfl) (pe_op op_mod (pe_callTy call_int1 rfl G.g_int (by rfl) (pa_cons (pe_op op_mul (pe_op op_add (pe_op op_add (pv 4) (pe_op op_mul pe_int (pe_ix (ixK (K := K) rfl) (pv 0) pe_int (fun _ _ => rfl)))) pe_int) pe_int) pa_nil)) pe_int)) (pss_cons (ps_set (i := 5) sc__law_draw.nd rfl (Or.inl rfl) (pe_op op_mod (pe_callTy call_int1 rfl G.g_int (by rfl) (pa_cons (pe_op op_mul (pv 5) (pe_op op_add (pe_op op_fdiv (pv 5) pe_int) pe_int)) pa_nil)) pe_int)) (pss_cons (ps_set (i := 5) sc__law_draw.nd rfl (Or.inl rfl) (pe_op op_mod (pe_callTy call_int1 rfl G.g_int (by rfl) (pa_cons (pe_op op_mul (pv 5) (pe_op op_add (pe_op op_fdiv (pv 5) pe_int) pe_int)) pa_nil)) pe_int)) (pss_one (ps_ret (pe_op op_mod (pe_callTy call_int1 rfl G.g_int (by rfl) (pa_cons (pe_op op_fdiv (pv 5) pe_int) pa_nil)) (pv 1))))))))))), ?_⟩))
  · obtain ⟨_, _, rfl, _⟩ := h
    rfl
  · obtain ⟨p, m, rfl, hP, hm1, hm2, k⟩ := h
    refine ⟨fun σ' H' => (∃ v, σ' = [some (.ref p), some (.int m), v, none, none, none]) ∧ Pool H' p ∧ Kp p H H', ?_, ?_⟩
    · have hP0 := hP
      obtain ⟨g, s', n, kk, gs, ss, hp, gp, sp, n0, k0, hg, pg, lg, hs, ps, ls⟩ := hP
      refine ⟨_, rfl, .inl ⟨p, _, 2, _, rfl, rfl, sq_of hp, rfl, rfl, _, rfl, ?_⟩⟩
      have skip : (fun σ' H' => (∃ v, σ' = [some (V.ref p), some (V.int m), v, none, none, none]) ∧ Pool H' p ∧ Kp p H H') (start ["_law_pool_here", "_law_many", "_law_great", "_law_digit", "_law_seed", "_law_number_here"] [.ref p, .int m]) H := ⟨⟨none, rfl⟩, hP0, Kp.refl p H⟩
      cases hd : decide (V.int n = V.int 0) with
      | false => exact skip
      | true =>
        refine ⟨_, rfl, .inl ⟨p, _, 0, _, rfl, rfl, sq_of hp, rfl, .ref g, gs.length, rfl, .inl ⟨_, sq_of hg, by rw [List.length_map]⟩, _, _, rfl, rfl, _, rfl, ?_⟩⟩
        cases gs with
        | nil => exact skip
        | cons g0 gs =>
          have hgt : decide ((0 : Int) < (((g0 :: gs).length : Nat) : Int)) = true := decide_eq_true (by simp)
          rw [hgt]
          refine ⟨_, rfl, .inl ⟨p, _, 0, _, rfl, rfl, sq_of hp, rfl, ?_⟩⟩
          refine ⟨_, rfl, .inl ⟨g, _, 0, .int g0, rfl, rfl, sq_of hg, (show atI ((g0 :: gs).map V.int) ((0 : Nat) : Int) = some (.int g0) from atI_nat rfl), ?_⟩⟩
          refine ⟨_, rfl, 1, rfl, g, _, rfl, sq_of hg, fun l hl => ?_⟩
          have ec : cutV ((g0 :: gs).map V.int) (some 1) none = gs.map V.int := cut_drop ((g0 :: gs).map V.int) 1
          rw [ec]
          refine ⟨(by show 2 ≤ sizeLine; decide), fun T hT => ⟨T, _, rfl, st_of upd_same, rfl, _, _, rfl, ?_⟩⟩
          have npl : p ≠ l := ne_of_none hp hl
          have hp1 : upd H l (.lst (gs.map V.int)) p = some (.lst [.ref g, .ref s', .int n, .int kk]) := by rw [upd_ne npl]; exact hp
          have npT : p ≠ T := ne_of_none hp1 hT
          have nlT : l ≠ T := ne_of_none upd_same hT
          have nsl : s' ≠ l := ne_of_none hs hl
          have hs1 : upd H l (.lst (gs.map V.int)) s' = some (.lst (ss.map V.int)) := by rw [upd_ne nsl]; exact hs
          have nsT : s' ≠ T := ne_of_none hs1 hT
          refine ⟨_, rfl, p, _, 2, 2, rfl, rfl, (by rw [upd_ne npT]; exact hp1), rfl, _, _, rfl, _, rfl, p, _, 0, 0, rfl, rfl, upd_same, rfl, rfl, ⟨_, rfl⟩, ?_, ?_⟩
          · refine ⟨l, s', g0, kk, gs, ss, upd_same, npl.symm, sp, pg g0 (by simp), k0, ?_, fun x hx => pg x (by simp [hx]), by simp at lg; omega, ?_, ps, ls⟩
            · rw [upd_ne npl.symm, upd_ne npl.symm, upd_ne nlT, upd_same]
            · rw [upd_ne sp, upd_ne sp, upd_ne nsT]; exact hs1
          · exact Kp.of (K0.put (K0.put (K0.new (K0.new (K0.refl p H) hl) hT))) hp upd_same (.inr hl)
    · rintro σ' H1 ⟨⟨v, rfl⟩, ⟨g, s', n, kk, gs, ss, hp, gp, sp, n0, k0, hg, pg, lg, hs, ps, ls⟩, K1⟩
      refine ⟨fun σ' H' => (∃ v2, σ' = [some (.ref p), some (.int m), v2, none, none, none]) ∧ H' = H1, ?_, ?_⟩
      · refine ⟨_, rfl, .inl ⟨p, _, 2, _, rfl, rfl, sq_of hp, rfl, _, _, rfl, rfl, _, rfl, ?_⟩⟩
        refine ite2 (fun hn => ?_) (fun _ => ⟨⟨_, rfl⟩, rfl⟩)
        have hn0 : 0 < n := of_decide_eq_true hn
        refine ⟨_, rfl, .inl ⟨p, _, 2, _, rfl, rfl, sq_of hp, rfl, .inl ⟨n, rfl, _, rfl, n, m, rfl, rfl, (by show 0 < m; omega), ?_⟩⟩⟩
        refine ⟨_, rfl, .inl ⟨p, _, 2, _, rfl, rfl, sq_of hp, rfl, _, rfl, n, m, rfl, rfl, ⟨by omega, by omega⟩, ?_⟩⟩
        refine ⟨(by show 2 ≤ sizeLine; decide), fun T hT => ⟨T, _, rfl, st_of upd_same, rfl, _, _, rfl, ?_⟩⟩
        have npT : p ≠ T := ne_of_none hp hT
        refine ⟨_, _, rfl, _, rfl, p, _, 2, 2, rfl, rfl, (by rw [upd_ne npT]; exact hp), rfl, rfl, _, rfl, ?_⟩
        refine k _ _ (Int.emod_nonneg _ (by omega)) (Int.emod_lt_of_pos _ (by omega)) (K1.trans (Kp.of (K0.put (K0.new (K0.refl p _) hT)) hp upd_same (.inl rfl))) ?_
        refine ⟨g, s', n / m, kk, gs, ss, upd_same, gp, sp, Int.ediv_nonneg n0 (by omega), k0, ?_, pg, lg, ?_, ps, ls⟩
        · rw [upd_ne gp, upd_ne (ne_of_none hg hT)]; exact hg
        · rw [upd_ne sp, upd_ne (ne_of_none hs hT)]; exact hs
      · rintro σ' H2 ⟨⟨v2, rfl⟩, rfl⟩
        refine ⟨_, rfl, .inl ⟨p, _, 3, _, rfl, rfl, sq_of hp, rfl, kk, 1, rfl, rfl, ?_⟩⟩
        refine ⟨_, rfl, p, _, 3, 3, rfl, rfl, hp, rfl, ?_⟩
        have K3 : Kp p H (upd H2 p (.lst ([.ref g, .ref s', .int n, .int kk].set 3 (.int (kk + 1))))) := K1.trans (Kp.of (K0.put (K0.refl p _)) hp upd_same (.inl rfl))
        have hp3 : upd H2 p (.lst ([.ref g, .ref s', .int n, .int kk].set 3 (.int (kk + 1)))) p = some (.lst [.ref g, .ref s', .int n, .int (kk + 1)]) := upd_same
        have hg3 : upd H2 p (.lst ([.ref g, .ref s', .int n, .int kk].set 3 (.int (kk + 1)))) g = some (.lst (gs.map V.int)) := by rw [upd_ne gp]; exact hg
        have hs3 : upd H2 p (.lst ([.ref g, .ref s', .int n, .int kk].set 3 (.int (kk + 1)))) s' = some (.lst (ss.map V.int)) := by rw [upd_ne sp]; exact hs
        generalize upd H2 p (.lst ([.ref g, .ref s', .int n, .int kk].set 3 (.int (kk + 1)))) = H3 at K3 hp3 hg3 hs3
        have P3 : Pool H3 p := ⟨g, s', n, kk + 1, gs, ss, hp3, gp, sp, n0, by omega, hg3, pg, lg, hs3, ps, ls⟩
        -- the seed
        refine ⟨_, rfl, .inl ⟨p, _, 1, _, rfl, rfl, sq_of hp3, rfl, (by show 1 ≤ sizeLine; decide), fun b hb => ?_⟩⟩
        have e4 : Ex H3 (upd H3 b (.lst [.int 0])) := Ex.new hb
        refine ⟨s', b, _, _, rfl, rfl, e4 _ _ hs3, upd_same, (by rw [List.length_map]; exact Nat.le_trans (Nat.add_le_add_right ls 1) (by decide)), fun c hc => ?_⟩
        have e5 : Ex H3 (upd (upd H3 b (.lst [.int 0])) c (.lst (ss.map V.int ++ [.int 0]))) := e4.trans (Ex.new hc)
        have hc5 : upd (upd H3 b (.lst [.int 0])) c (.lst (ss.map V.int ++ [.int 0])) c = some (.lst (ss.map V.int ++ [.int 0])) := upd_same
        generalize upd (upd H3 b (.lst [.int 0])) c (.lst (ss.map V.int ++ [.int 0])) = H5 at e5 hc5
        have hp5 := e5 _ _ hp3
        have hs5 := e5 _ _ hs3
        have P5 : Pool H5 p := P3.ex e5
        have K5 : Kp p H H5 := K3.trans (Kp.ex e5 P3)
        refine ⟨_, rfl, .inl ⟨p, _, 3, _, rfl, rfl, sq_of hp5, rfl, .inl ⟨kk + 1, rfl, ?_⟩⟩⟩
        refine ⟨_, rfl, .inl ⟨p, _, 1, _, rfl, rfl, sq_of hp5, rfl, .ref s', ss.length, rfl, .inl ⟨_, sq_of hs5, by rw [List.length_map]⟩, 1, (ss.length : Int), rfl, ?_⟩⟩
        generalize hmx : (if ((ss.length : Nat) : Int) > 1 then ((ss.length : Nat) : Int) else 1) = mx
        have hmx1 : 1 ≤ mx ∧ mx ≤ (ss.length : Int) + 1 := by
          rw [← hmx]
          split <;> omega
        have hj0 : 0 ≤ (kk + 1) % mx := Int.emod_nonneg _ (by omega)
        have hj1 : (kk + 1) % mx < mx := Int.emod_lt_of_pos _ (by omega)
        obtain ⟨z, hz⟩ : ∃ z, (ss ++ [0])[((kk + 1) % mx).toNat]? = some z := ⟨_, List.getElem?_eq_getElem (by rw [List.length_append, List.length_singleton]; omega)⟩
        have hz2 : (ss.map V.int ++ [.int 0])[((kk + 1) % mx).toNat]? = some (V.int z) := by
          have e : ss.map V.int ++ [.int 0] = (ss ++ [0]).map V.int := by simp
          rw [e, List.getElem?_map, hz]
          rfl
        refine ⟨kk + 1, mx, rfl, rfl, (by show 0 < mx; omega), .inl ⟨c, _, _, .int z, rfl, rfl, sq_of hc5, at_of (j := ((kk + 1) % mx).toNat) (by omega) hz2, ?_⟩⟩
        -- the numbers
        refine ⟨_, rfl, _, rfl, .inl ⟨p, _, 3, _, rfl, rfl, sq_of hp5, rfl, 7919, kk + 1, rfl, rfl, .inl ⟨by decide, by decide⟩, z, _, rfl, rfl, _, 1, rfl, rfl, _, 48271, rfl, rfl, .inr ⟨by decide, by decide⟩, .inl ⟨_, rfl, _, 2147483647, rfl, rfl, (by show (0 : Int) < 2147483647; decide), ?_⟩⟩⟩
        dsimp only
        generalize h1 : (z + 7919 * (kk + 1) + 1) * 48271 % 2147483647 = n1
        have b1 : 0 ≤ n1 ∧ n1 < 2147483647 := by rw [← h1]; exact ⟨Int.emod_nonneg _ (by decide), Int.emod_lt_of_pos _ (by decide)⟩
        refine ⟨_, rfl, _, rfl, n1, 1009, rfl, rfl, ⟨by decide, by decide⟩, _, 69621, rfl, rfl, n1, _, rfl, rfl, .inl ⟨by omega, by omega⟩, .inl ⟨_, rfl, _, 2147483647, rfl, rfl, (by show (0 : Int) < 2147483647; decide), ?_⟩⟩
        dsimp only
        generalize h2 : n1 * (n1 / 1009 + 69621) % 2147483647 = n2
        have b2 : 0 ≤ n2 ∧ n2 < 2147483647 := by rw [← h2]; exact ⟨Int.emod_nonneg _ (by decide), Int.emod_lt_of_pos _ (by decide)⟩
        refine ⟨_, rfl, _, rfl, n2, 2003, rfl, rfl, ⟨by decide, by decide⟩, _, 40692, rfl, rfl, n2, _, rfl, rfl, .inl ⟨by omega, by omega⟩, .inl ⟨_, rfl, _, 2147483399, rfl, rfl, (by show (0 : Int) < 2147483399; decide), ?_⟩⟩
        exact ⟨_, rfl, _, 16, rfl, rfl, ⟨by decide, by decide⟩, .inl ⟨_, rfl, _, rfl, _, m, rfl, rfl, (by show 0 < m; omega), k _ _ (Int.emod_nonneg _ (by omega)) (Int.emod_lt_of_pos _ (by omega)) K5 P5⟩⟩
abbrev s__law_pick : Stmt := top 41
theorem sc__law_pick : FnScope ["_law_pool_here", "_law_items"] ["_law_pool_here", "_law_items"] (defScope s__law_pick) := ⟨rfl, rfl, rfl, by decide +kernel, rfl, by decide +kernel, by decide +kernel⟩
def spPick : Sp := fun vs H Q _ => ∃ (p a : Addr) (xs : List V), vs = [.ref p, .ref a] ∧ Pool H p ∧ a ≠ p ∧ (H a = some (.lst xs) ∨ H a = some (.tup xs)) ∧ xs ≠ [] ∧ xs.length ≤ 1000 ∧ ∀ x H', x ∈ xs → Kp p H H' → Pool H' p → Q x H'
theorem ok_pick (G : Gz mg) (D : Df K mg "_law_pick" s__law_pick f fd ["_law_pool_here", "_law_items"]) (c__law_draw : Callee P w K mg base CXn 1 "_law_draw" 2 spDraw) : Callee P w K mg base CXn 2 "_law_pick" 2 spPick := by
  refine D.callee (D.fn.ok sc__law_pick (fun vs H Q E h => ?_) (fun cdv A outer s H vs Q E hr h => ⟨_, PSs.nox (pss_one (ps_ret (pe_ix (ixK (K := K) rfl) (pv 1) (pe_cl (E := En) c__law_draw (hr.mono (by decide)) rfl passN (pa_cons (pv 0) (pa_cons (pe_callB (lenK (K := K) rfl) rfl G.g_len PySem.boot_len (pa_cons (pv 1) pa_nil)) pa_nil))) (fun _ _ => rfl)))), ?_⟩))
  · obtain ⟨_, _, _, rfl, _⟩ := h
    rfl
  · obtain ⟨p, a, xs, rfl, hP, nap, hx, hne, hl, k⟩ := h
    have hlen : LenV K (.ref a) H xs.length := hx.elim (fun z => .inl ⟨_, sq_of z, rfl⟩) fun z => .inr ⟨_, st_of z, rfl⟩
    have hpos : 0 < xs.length := List.length_pos_iff.mpr hne
    refine ⟨_, rfl, _, rfl, _, rfl, .ref a, xs.length, rfl, hlen, p, _, rfl, hP, by omega, by omega, fun d H1 d0 d1 K1 P1 => ?_⟩
    obtain ⟨x, hxd⟩ : ∃ x, xs[d.toNat]? = some x := ⟨_, List.getElem?_eq_getElem (by omega)⟩
    have fin := k x H1 (List.mem_of_getElem? hxd) K1 P1
    rcases hx with hx | hx
    · exact .inl ⟨a, xs, d, x, rfl, rfl, sq_of (K1.k _ _ nap hx), at_of (j := d.toNat) (by omega) hxd, fin⟩
    · exact .inr (.inl ⟨a, xs, d, x, rfl, rfl, st_of (K1.k _ _ nap hx), at_of (j := d.toNat) (by omega) hxd, fin⟩)
def sg (c : Nat) : Str := ⟨#[c]⟩
abbrev abc : Str := "abcdefghijklmnopqrstuvwxyz"
theorem abc_at : ∀ j : Fin 26, abc.cps.toList[j.1]? = some (97 + j.1) := by decide +kernel
theorem abc_len : abc.cps.toList.length = 26 := by decide +kernel
theorem abc_mem {c : Nat} (h : c ∈ abc.cps.toList) : 97 ≤ c ∧ c ≤ 122 := by
  obtain ⟨j, hj⟩ := List.getElem?_of_mem h
  have hl := (List.getElem?_eq_some_iff.mp hj).1
  rw [abc_len] at hl
  rw [abc_at ⟨j, hl⟩] at hj
  cases hj
  show 97 ≤ 97 + j ∧ 97 + j ≤ 122
  omega
theorem join_sg : ∀ cs : List Nat, (Str.join "" (cs.map sg)).cps.toList = cs
  | [] => rfl
  | [c] => rfl
  | c :: d :: r => by
    have ih := join_sg (d :: r)
    show (sg c ++ "" ++ Str.join "" ((d :: r).map sg)).cps.toList = _
    rw [Str.cps_append, Str.cps_append, Array.toList_append, Array.toList_append, ih]
    rfl
theorem txt_ext {a b : Str} (h : a.cps.toList = b.cps.toList) : a = b := str_ext h
theorem inV_str (z : Str) (zs : List Str) : inV (.str z) (zs.map V.str) = decide (z ∈ zs) := by
  unfold inV
  rw [Bool.eq_iff_iff, List.any_eq_true]
  constructor
  · rintro ⟨y, hy, e⟩
    obtain ⟨u, hu, rfl⟩ := List.mem_map.mp hy
    have e2 : (u == z) = true := e
    rw [← beq_iff_eq.mp e2]
    exact decide_eq_true hu
  · intro h
    refine ⟨.str z, List.mem_map.mpr ⟨z, of_decide_eq_true h, rfl⟩, ?_⟩
    show (z == z) = true
    exact beq_self_eq_true z
theorem flat_strs (zs : List Str) : (zs.map V.str).all flatV = true := by
  rw [List.all_eq_true]
  intro v hv
  obtain ⟨z, _, rfl⟩ := List.mem_map.mp hv
  rfl
/-- more different ones than places -/
theorem pigeon {α : Type} [DecidableEq α] : ∀ (l m : List α), l.Nodup → (∀ x ∈ l, x ∈ m) → l.length ≤ m.length
  | [], m, _, _ => Nat.zero_le _
  | a :: l, m, nd, h => by
    obtain ⟨na, nd2⟩ := List.nodup_cons.mp nd
    have ih := pigeon l (m.erase a) nd2 fun x hx => by
      have hm := h x (List.mem_cons_of_mem _ hx)
      have ne : x ≠ a := fun z => na (z ▸ hx)
      exact (List.mem_erase_of_ne ne).mpr hm
    have hm := h a List.mem_cons_self
    rw [List.length_erase_of_mem hm] at ih
    have : 0 < m.length := List.length_pos_of_mem hm
    rw [List.length_cons]
    omega
/-- the letter behind the first nine -/
def nx9 (z : Str) : V → Str
  | .str c => cutS z none (some 9) ++ c
  | _ => z
theorem cut9 (z : Str) : (cutS z none (some 9)).cps.toList = z.cps.toList.take 9 := by
  unfold cutS
  rw [HT.sIx_none]
  have e : HT.sIx z.length z.length (some 9) = min 9 z.length := HT.sIx_nat z.length z.length 9
  rw [e]
  show ((z.cps.toList.drop 0).take (min 9 z.length - 0)) = z.cps.toList.take 9
  rw [List.drop_zero, Nat.sub_zero]
  have hl : z.cps.toList.length = z.length := Array.length_toList
  rcases Nat.le_total 9 z.length with h | h
  · rw [Nat.min_eq_left h]
  · rw [Nat.min_eq_right h, List.take_of_length_le (by omega), List.take_of_length_le (by omega)]
theorem nx9_cps (z : Str) (c : Nat) : (nx9 z (.str (sg c))).cps.toList = z.cps.toList.take 9 ++ [c] := by
  show (cutS z none (some 9) ++ sg c).cps.toList = _
  rw [Str.cps_append, Array.toList_append, cut9]
  rfl
theorem nx9_inj {z : Str} {c d : Nat} (h : nx9 z (.str (sg c)) = nx9 z (.str (sg d))) : c = d := by
  have e1 := nx9_cps z c
  rw [h, nx9_cps z d] at e1
  have e2 := List.append_cancel_left e1
  simpa using e2.symm
theorem nx9_some (z : Str) (zs : List Str) (hz : zs.length ≤ 20) : ∃ c r, (chs abc).filter (fun x => !decide (nx9 z x ∈ zs)) = .str (sg c) :: r ∧ c ∈ abc.cps.toList ∧ nx9 z (.str (sg c)) ∉ zs := by
  have mem : ∀ x ∈ chs abc, ∃ c, c ∈ abc.cps.toList ∧ V.str (sg c) = x := fun x hx => by
    unfold chs at hx
    exact List.mem_map.mp hx
  cases e : (chs abc).filter (fun x => !decide (nx9 z x ∈ zs)) with
  | nil =>
    have all : ∀ x ∈ (chs abc).map (nx9 z), x ∈ zs := fun y hy => by
      obtain ⟨x, hx, rfl⟩ := List.mem_map.mp hy
      have h := List.filter_eq_nil_iff.mp e x hx
      simpa using h
    have nd : ((chs abc).map (nx9 z)).Nodup := by
      unfold chs
      rw [List.map_map]
      have nd0 : abc.cps.toList.Nodup := by decide +kernel
      exact List.Pairwise.map _ (fun c d hcd z2 => hcd (nx9_inj z2)) nd0
    have h1 := pigeon _ _ nd all
    rw [List.length_map, chs_len] at h1
    have h2 : abc.length = 26 := by decide +kernel
    omega
  | cons x r =>
    have hx : x ∈ (chs abc).filter (fun x => !decide (nx9 z x ∈ zs)) := by rw [e]; exact List.mem_cons_self
    obtain ⟨h1, h2⟩ := List.mem_filter.mp hx
    obtain ⟨c, hc, rfl⟩ := mem x h1
    exact ⟨c, r, rfl, hc, by simpa using h2⟩
theorem nx9_nm {z : Str} {c : Nat} (h : IsNm z) (hc : 97 ≤ c ∧ c ≤ 122) : IsNm (nx9 z (.str (sg c))) := by
  have e := nx9_cps z c
  have hl : (nx9 z (.str (sg c))).length = (z.cps.toList.take 9 ++ [c]).length := by rw [← e, Array.length_toList]; rfl
  rw [List.length_append, List.length_take, List.length_singleton] at hl
  refine ⟨by omega, by omega, fun d hd => ?_⟩
  rw [e] at hd
  rcases List.mem_append.mp hd with hd | hd
  · exact h.2.2 d (List.mem_of_mem_take hd)
  · rw [List.mem_singleton.mp hd]; exact hc
abbrev s__law_name : Stmt := top 42
theorem sc__law_name : FnScope ["_law_pool_here", "_law_taken", "_law_letters", "_law_size", "_law_name_here", "_law_k", "_law_letter"] ["_law_pool_here", "_law_taken"] (defScope s__law_name) := ⟨rfl, rfl, rfl, by decide +kernel, rfl, by decide +kernel, by decide +kernel⟩
def spName : Sp := fun vs H Q _ => ∃ (p a : Addr) (zs : List Str), vs = [.ref p, .ref a] ∧ Pool H p ∧ a ≠ p ∧ H a = some (.lst (zs.map V.str)) ∧ zs.length ≤ 20 ∧ ∀ z H', IsNm z → z ∉ zs → Kp p H H' → Pool H' p → Q (.str z) H'
theorem ok_name (G : Gz mg) (D : Df K mg "_law_name" s__law_name f fd ["_law_pool_here", "_law_taken"]) (c__law_draw : Callee P w K mg base CXn 1 "_law_draw" 2 spDraw) : Callee P w K mg base CXn 2 "_law_name" 2 spName := by
  refine D.callee (D.fn.ok sc__law_name (fun vs H Q E h => ?_) (fun cdv A outer s H vs Q E hr h => ⟨_, PSs.nox (pss_cons (ps_set (i := 2) sc__law_name.nd rfl (Or.inr rfl) pe_str) (pss_cons (ps_set (i := 3) sc__law_name.nd rfl (Or.inl rfl) (pe_ix (ixK (K := K) rfl) (pe_lst (pa_cons pe_int (pa_cons pe_int (pa_cons pe_int (pa_cons pe_int (pa_cons pe_int (pa_cons pe_int (pa_cons pe_int pa_nil)))))))) (pe_cl (E := En) c__law_draw (hr.mono (by decide)) rfl passN (pa_cons (pv 0) (pa_cons pe_int pa_nil))) (fun _ _ => rfl))) (pss_cons (ps_set (i := 4) sc__law_name.nd rfl (Or.inr rfl) (pe_join pe_str (pe_lc (own := [("_law_k", 5)]) rfl sc__law_name.nd (pi_range1 rfl G.g_range (pa_cons (pv 3) pa_nil)) (BlkOk.mk (N := ["_law_pool_here", "_law_taken", "_law_letters", "_law_size", "_law_name_here", "_law_k", "_law_letter"]) (sc := defScope s__law_name) rfl (by decide +kernel) (by decide +kernel) (by decide +kernel) (by decide +kernel)) (fun _ _ _ _ _ => (pg_name (i := 5) sc__law_name.nd rfl (Or.inl rfl))) (fun _ _ _ _ _ => pts_nil) (fun _ _ _ _ _ => (pe_ix (ixK (K := K) rfl) (pv 2) (pe_cl (E := En) c__law_draw (hr.mono (by decide)) rfl passN (pa_cons (pv 0) (pa_cons pe_int pa_nil))) (fun _ _ => rfl)))))) (pss_cut (ps_if (pt_cmpR (inK (K := K) rfl) (pv 4) (pv 1) (by rfl)) (pss_one (ps_set (i := 4) sc__law_name.nd rfl (Or.inr rfl) (pe_ix (ixK (K := K) rfl) (pe_lc (own := [("_law_letter", 6)]) rfl sc__law_name.nd (pi_str (pv 2)) (BlkOk.mk (N := ["_law_pool_here", "_law_taken", "_law_letters", "_law_size", "_law_name_here", "_law_k", "_law_letter"]) (sc := defScope s__law_name) rfl (by decide +kernel) (by decide +kernel) (by decide +kernel) (by decide +kernel)) (fun _ _ _ _ _ => (pg_name (i := 6) sc__law_name.nd rfl (Or.inl rfl))) (fun _ _ _ _ _ => (pts_one (pt_cmpR (notInK (K := K) rfl) (pe_op op_add_str (pe_slice sl_str (pv 4) po_none (po_some pe_int)) (pv 6)) (pv 1) (by rfl)))) (fun _ _ _ _ _ => (pe_op op_add_str (pe_slice sl_str (pv 4) po_none (po_some pe_int)) (pv 6)))) pe_int (fun _ _ => rfl)))) pss_nil) (pss_one (ps_ret (pv 4))))))), ?_⟩))
  · obtain ⟨_, _, _, rfl, _⟩ := h
    rfl
  · obtain ⟨p, a, zs, rfl, hP, nap, ha, hz, k⟩ := h
    refine ⟨(by show 7 ≤ sizeLine; decide), fun l hl => ⟨_, rfl, p, 7, rfl, hP.ex (Ex.new hl), by decide, by decide, fun d H1 d0 d1 K1' P1 => ?_⟩⟩
    have hm : ∃ m : Int, ([.int 1, .int 1, .int 2, .int 3, .int 4, .int 6, .int 10] : List V)[d.toNat]? = some (.int m) ∧ 1 ≤ m ∧ m ≤ 10 := by
      have hd : d = 0 ∨ d = 1 ∨ d = 2 ∨ d = 3 ∨ d = 4 ∨ d = 5 ∨ d = 6 := by omega
      rcases hd with rfl | rfl | rfl | rfl | rfl | rfl | rfl <;> exact ⟨_, rfl, by decide, by decide⟩
    obtain ⟨m, hm, m1, m10⟩ := hm
    have nlp : l ≠ p := fun z => hP.here (z ▸ hl)
    have K1 : Kp p H H1 := (Kp.ex (Ex.new hl) hP).trans K1'
    refine .inl ⟨l, _, d, .int m, rfl, rfl, sq_of (K1'.k l _ nlp upd_same), at_of (j := d.toNat) (by omega) hm, ?_⟩
    refine ⟨⟨_, rfl⟩, _, rfl, m, rfl, by omega, by omega, fun D hD => ?_⟩
    obtain ⟨hD0, nDp⟩ := K1.free P1 hD
    refine lc_range (fun i H' => ∃ cs : List Nat, cs.length = i ∧ (∀ c ∈ cs, 97 ≤ c ∧ c ≤ 122) ∧ H' D = some (.lst (cs.map fun c => .str (sg c))) ∧ Kp p H H' ∧ Pool H' p ∧ Apart H' p D) ?_ ?_ ?_
    · obtain ⟨_, ap⟩ := Apart.new (o := .lst []) P1 hD
      exact ⟨[], rfl, fun c hc => (nomatch hc), upd_same, K1.new P1 hD, P1.ex (Ex.new hD), ap⟩
    · rintro i H' hi ⟨cs, hcl, hcs, hd, K2, P2, A2⟩
      refine ⟨rfl, _, rfl, _, rfl, p, 26, rfl, P2, by decide, by decide, fun e H3 e0 e1 K3 P3 => ?_⟩
      have he : abc.cps.toList[e.toNat]? = some (97 + e.toNat) := abc_at ⟨e.toNat, by omega⟩
      have hd3 := K3.k D _ nDp hd
      refine .inr (.inr ⟨abc, e, 97 + e.toNat, rfl, rfl, (by decide), (by have q := atI_nat (xs := abc.cps.toList) he; rwa [show ((e.toNat : Nat) : Int) = e by omega] at q), _, hd3, ?_, ?_⟩)
      · rw [List.length_map]
        exact sz_lt (by omega)
      · have hd2 : H' D ≠ none := some_ne hd
        refine ⟨cs ++ [97 + e.toNat], by rw [List.length_append, hcl]; rfl, fun c hc => ?_, ?_, (K2.trans K3).mut hD0 nDp, P3.mut nDp (K3.a D nDp hd2 A2), Apart.mut nDp (K3.a D nDp hd2 A2)⟩
        · rcases List.mem_append.mp hc with hc | hc
          · exact hcs c hc
          · rw [List.mem_singleton.mp hc]; omega
        · rw [upd_same, List.map_append]
          rfl
    rintro H' ⟨cs, hcl, hcs, hd, K2, P2, A2⟩
    refine ⟨_, D, cs.map sg, rfl, rfl, .inl (sq_of (by rw [hd, List.map_map]; rfl)), ?_, ?_⟩
    · have h1 : (cs.map sg).map (·.length) = cs.map fun _ => 1 := by rw [List.map_map]; rfl
      have h2 : (cs.map fun _ => (1 : Nat)).sum = cs.length := by
        clear h1 hd hcs hcl
        induction cs with
        | nil => rfl
        | cons c r ih => rw [List.map_cons, List.sum_cons, ih, List.length_cons]; omega
      rw [h1, h2]
      show cs.length + (cs.map sg).length * 0 ≤ 16777216
      omega
    have hjn : (Txt.join "" (cs.map sg)).cps.toList = cs := by rw [show Txt.join "" (cs.map sg) = Str.join "" (cs.map sg) from StrLaws.glued_eq_join _ _]; exact join_sg cs
    generalize hzz : Txt.join "" (cs.map sg) = z at hjn ⊢
    have zl : z.length = cs.length := by rw [← hjn, Array.length_toList]; rfl
    have nz : IsNm z := ⟨by omega, by omega, fun c hc => hcs c (hjn ▸ hc)⟩
    have ha2 := K2.k a _ nap ha
    refine ⟨fun σ' H2 => ∃ y v5 v6, σ' = [some (.ref p), some (.ref a), some (.str abc), some (.int m), some (.str y), v5, v6] ∧ IsNm y ∧ y ∉ zs ∧ Kp p H H2 ∧ Pool H2 p, ?_, ?_⟩
    · refine ⟨_, rfl, _, rfl, a, _, rfl, .inl (sq_of ha2), rfl, flat_strs zs, _, rfl, ?_⟩
      show if (inV (.str z) (zs.map V.str)) = true then _ else _
      rw [inV_str]
      refine ite2 (fun hin => ?_) (fun hno => ⟨z, none, none, rfl, nz, fun z2 => hno (decide_eq_true z2), K2, P2⟩)
      refine ⟨_, rfl, abc, rfl, fun D2 hD2 => ?_⟩
      have lz : z.length ≤ sizeLine := Nat.le_trans nz.2.1 (by decide)
      have lc9 : ∀ c, (cutS z none (some 9)).length + (sg c).length ≤ sizeLine := fun c => by
        have h1 : (cutS z none (some 9)).length = ((cutS z none (some 9)).cps.toList).length := by rw [Array.length_toList]; rfl
        rw [cut9, List.length_take] at h1
        have h2 : (sg c).length = 1 := rfl
        exact Nat.le_trans (by omega : _ ≤ 10) (by decide)
      have mem : ∀ x ∈ chs abc, ∃ c, c ∈ abc.cps.toList ∧ V.str (sg c) = x := fun x hx => by
        unfold chs at hx
        exact List.mem_map.mp hx
      refine lc_ev (f := fun x => !decide (nx9 z x ∈ zs)) (v := fun x => .str (nx9 z x)) st_s (by rw [chs_len]; decide +kernel) (fun x => rfl) hD2 (fun x hx H3 e Q q => ?_) (fun x hx _ H3 e Q q => ?_) (fun H3 e3 hd3 => ?_)
      · obtain ⟨c, hc, rfl⟩ := mem x hx
        refine ⟨_, rfl, 9, rfl, z, rfl, lz, _, rfl, _, sg c, rfl, rfl, lc9 c, _, rfl, a, _, rfl, .inl (sq_of (e _ _ ha2)), rfl, flat_strs zs, _, rfl, ?_⟩
        show Q (!inV (.str (nx9 z (.str (sg c)))) (zs.map V.str)) H3
        rw [inV_str]
        exact q H3 (Ex.refl _)
      · obtain ⟨c, hc, rfl⟩ := mem x hx
        exact ⟨_, rfl, 9, rfl, z, rfl, lz, _, rfl, _, sg c, rfl, rfl, lc9 c, q H3 (Ex.refl _)⟩
      · obtain ⟨c, r, e, hc, hn⟩ := nx9_some z zs hz
        rw [e] at hd3
        refine .inl ⟨D2, _, 0, .str (nx9 z (.str (sg c))), rfl, rfl, sq_of hd3, (show atI _ ((0 : Nat) : Int) = _ from atI_nat rfl), ?_⟩
        exact ⟨_, _, _, rfl, nx9_nm nz (abc_mem hc), hn, K2.trans (Kp.ex e3 P2), P2.ex e3⟩
    · rintro σ' H2 ⟨y, v5, v6, rfl, ny, hy, K5, P5⟩
      exact ⟨_, rfl, k y H2 ny hy K5 P5⟩
abbrev s__law_names : Stmt := top 43
theorem sc__law_names : FnScope ["_law_pool_here", "_law_many", "_law_names_here", "_law_k"] ["_law_pool_here", "_law_many"] (defScope s__law_names) := ⟨rfl, rfl, rfl, by decide +kernel, rfl, by decide +kernel, by decide +kernel⟩
def spNames : Sp := fun vs H Q _ => ∃ (p : Addr) (m : Int), vs = [.ref p, .int m] ∧ Pool H p ∧ 0 ≤ m ∧ m ≤ 20 ∧ ∀ (a : Addr) (zs : List Str) (H' : Hp), zs.length = m.toNat → zs.Nodup → (∀ z ∈ zs, IsNm z) → Kp p H H' → Pool H' p → H a = none → a ≠ p → H' a = some (.lst (zs.map V.str)) → Q (.ref a) H'
theorem ok_names (G : Gz mg) (D : Df K mg "_law_names" s__law_names f fd ["_law_pool_here", "_law_many"]) (c__law_name : Callee P w K mg base CXn 2 "_law_name" 2 spName) : Callee P w K mg base CXn 3 "_law_names" 2 spNames := by
  refine D.callee (D.fn.ok sc__law_names (fun vs H Q E h => ?_) (fun cdv A outer s H vs Q E hr h => ⟨_, PSs.nox (pss_cons (ps_set (i := 2) sc__law_names.nd rfl (Or.inl rfl) (pe_lst pa_nil)) (pss_cons (ps_for PassesOwn.never rfl (pi_range1 rfl G.g_range (pa_cons (pv 1) pa_nil)) (pg_name (i := 3) sc__law_names.nd rfl (Or.inl rfl)) (pss_one (ps_expr (pe_bm PySem.F.plainAttrs_list PySem.F.slot_list_append PySem.F.type_list_append mt_append (pv 2) (pa_cons (pe_cl (E := En) c__law_name (hr.mono (by decide)) rfl passN (pa_cons (pv 0) (pa_cons (pv 2) pa_nil))) pa_nil))))) (pss_one (ps_ret (pv 2))))), ?_⟩))
  · obtain ⟨_, _, rfl, _⟩ := h
    rfl
  · obtain ⟨p, m, rfl, hP, m0, m20, k⟩ := h
    refine ⟨Nat.zero_le _, fun l hl => ?_⟩
    obtain ⟨nlp, al⟩ := Apart.new (o := .lst []) hP hl
    refine ⟨_, rfl, m, rfl, by omega, by omega, for_range (fun i σ' H' => (∃ v, σ' = [some (.ref p), some (.int m), some (.ref l), v]) ∧ ∃ zs : List Str, zs.length = i ∧ zs.Nodup ∧ (∀ z ∈ zs, IsNm z) ∧ H' l = some (.lst (zs.map V.str)) ∧ Kp p H H' ∧ Pool H' p ∧ Apart H' p l) ?_ ?_ ?_⟩
    · exact ⟨⟨none, rfl⟩, [], rfl, List.nodup_nil, fun z hz => (nomatch hz), upd_same, (Kp.refl p H).new hP hl, hP.ex (Ex.new hl), al⟩
    · rintro i σ' H' hi ⟨⟨v, rfl⟩, zs, hzl, nd, nm, hd, K1, P1, A1⟩
      refine ⟨_, rfl, .inl ⟨rfl, _, sq_of hd⟩, _, rfl, _, rfl, p, l, zs, rfl, P1, nlp, hd, by omega, fun z H2 nz hz K2 P2 => ?_⟩
      have hd2 := K2.k l _ nlp hd
      have A2 := K2.a l nlp (some_ne hd) A1
      refine ⟨l, _, _, rfl, rfl, hd2, ?_, ⟨_, rfl⟩, zs ++ [z], by rw [List.length_append, hzl]; rfl, ?_, ?_, ?_, (K1.trans K2).mut hl nlp, P2.mut nlp A2, Apart.mut nlp A2⟩
      · rw [List.length_map]
        exact sz_lt (by omega)
      · rw [List.nodup_append]
        refine ⟨nd, by simp, fun x hx y hy => ?_⟩
        rw [List.mem_singleton.mp hy]
        exact fun e => hz (e ▸ hx)
      · intro x hx
        rcases List.mem_append.mp hx with hx | hx
        · exact nm x hx
        · rw [List.mem_singleton.mp hx]; exact nz
      · rw [upd_same, List.map_append]
        rfl
    · rintro σ' H' ⟨⟨v, rfl⟩, zs, hzl, nd, nm, hd, K1, P1, A1⟩
      exact ⟨_, rfl, k l zs H' hzl nd nm K1 P1 hl nlp hd⟩
end
end WK

set_option Elab.async false
set_option linter.all false
set_option maxRecDepth 100000
set_option maxHeartbeats 4000000
/-! A call, by a local name, of a def that may raise. -/
namespace WW
open PySem PySem.Spec PyProof.Rows L2
def tCallLS (i : Nat) (f : Addr) (sp : Sp) (E : L2.St → XK) (t : TA) : TE := fun σ H Q => σ[i]? = some (some (.ref f)) ∧ t σ H fun vs H1 => sp vs H1 Q (E σ)
section
variable {X : Cx} {CX : CXT} {k i : Nat} {f : Addr} {fd : FuncData} {ps : List Str} {sp : Sp} {E : L2.St → XK} {x : Str} {p pos : Pos} {e : Expr} {es : List Expr} {t : TA}
theorem pe_callLS (F : FnOk X.prog X.w X.K X.mg X.base CX k f fd ps sp) (hr : Room k X.A) (hN : X.N[i]? = some x) (hv : Vis X.env.scope x) (hk : PySem.W.keepIn X.K (.ref f) = true) (hb : Binds X.K fd ps []) (hx : ∀ σ, PassesAt CX X σ (E σ)) (ha : PA X (e :: es) t)
    (hdb : (x == ("__debug__" : Str)) = false := by decide) (hcd : (x == ("__classdict__" : Str)) = false := by decide)
    (he : starEach (e :: es) X.env = (false, eval e X.env) :: starEach es X.env := by rfl) (hpl : (backTo pos (starEach es X.env)).any (·.1) = false := by rfl) : PE X (.Call (.Name x p) (e :: es) [] pos) (tCallLS i f sp E t) := by
  refine ⟨fun pins s σ H Q I h => ?_⟩
  obtain ⟨hs, ht⟩ := h
  refine wpAny_Call_Name_kw (thn ((pe_var (pos := p) hN hv hdb hcd).run pins s σ H (fun v H1 => v = .ref f ∧ H1 = H) I ⟨.ref f, hs, rfl, rfl⟩) fun u s1 ⟨v, H1, I1, r1, q1⟩ => ?_)
  obtain ⟨rfl, rfl⟩ := q1
  cases r1
  refine PySem.W.callWith_K (h₀ := X.base) I.ok.mod.kin hk (thn (ha.run pos pins s1 σ _ _ I1 ht) fun us s2 ⟨vs, H2, I2, r, q⟩ => ⟨I2.kIn, ?_⟩) he hpl
  exact run_fnS F hr hb (hx σ) I2 r q
end
section
variable {X : Cx} {K : PySem.W.Frag}
theorem catAK (h : X.K = K) : OpR X (binaryOp .Add) (rCatA K) := h ▸ op_catA
theorem slAK (h : X.K = K) : SlR X (rSlA K) := h ▸ sl_tupA
end
end WW

set_option Elab.async false
set_option linter.all false
set_option maxRecDepth 100000
set_option maxHeartbeats 4000000
/-! An own exception (over ValueError) whose __init__ says super().__init__(a text) and keeps its argument. -/
namespace WW
open PySem PySem.Spec PyProof.Rows L2

section
variable {prog : Program} {w : World} {A : Around} {E : Value → Shared → Prop} {h : Heap} {g : Array GenState} {d : Drawn} {t : Nat} {os : OsState}
variable {nm q : Str} {C N : Addr} {bs bm : List Value} {hdct : Bool} {sn : List Str} {sub : List Value} {ab : Bool} {col : Option Bool} {dd : Option Addr} {k0 k1 k2 k3 k5 : Option Value}
/-- the bound ValueError.__init__ called -/
theorem call_bwV {u e t0 : Addr} {rest : List Value} {Q : Value → Shared → Prop}
    (hC : h.get? C = some (excClassObj nm q C N bs bm hdct sn sub ab col dd k0 k1 k2 k3 k5 "ValueError.__new__")) (he : h.get? e = some (PySem.HandSPX.excO C t0)) (hu : h.get? u = some (PySem.W.kxs_mw "ValueError.__init__" e)) (hrest : rest.length ≤ sizeLine)
    (hq : ∀ h' t1, (∀ b o, b ≠ e → h.get? b = some o → h'.get? b = some o) → h'.get? e = some (PySem.HandSPX.excO C t1) → Q .none ⟨h', g, d, t, os⟩) :
    wpAny (model prog w) A (call (.ref u) rest) Q E ⟨h, g, d, t, os⟩ := by
  refine wpAny_call (codeAny_of_tree ?_)
  show wpAny _ A.in1 (callAny (.ref u) ⟨rest, []⟩) _ _ _
  simp only [callAny]
  refine wpAny_bind (wpAny_load hu ?_)
  simp only [PySem.W.kxs_mw, show (Value.type "method-wrapper" == Value.type "method" || Value.type "method-wrapper" == Value.type "builtin_function_or_method" || Value.type "method-wrapper" == Value.type "method-wrapper") = true by decide, if_true]
  refine PySem.W.KFB.if_so (by decide) ?_
  refine wpAny_bind (PySem.ESX.check_bound F.excBase_ValueError hC he rfl ?_)
  refine wpAny_bind (wpAny_pure (wpAny_pure ?_))
  refine ⟨Code.quiet_builtin _ (by decide +kernel), codeAny_builtin F.excBase_ValueError.initEntry ?_⟩
  rw [Around.under_plainId F.excBase_ValueError.init.plain _]
  wp_walk
  refine hq _ h.objs.size (fun b o hb ho => ?_) ?_
  · rw [Heap.get?_update_other _ _ (Ne.symm hb)]
    exact Heap.get?_push_of_some _ ho
  · rw [Heap.get?_update_self _ (Heap.get?_push_of_some _ he) rfl]
    rfl
end

/-- the context of such a body -/
def cxE (P : Program) (w : World) (K : PySem.W.Frag) (mg : Str → Option Value) (base : Heap) (par qual : Str) (scope : Scope) (f cc : Addr) (cd : Value) (A : Around) (outer : List Env) (s : Shared) (H : Hp) : Cx where
  prog := P
  w := w
  K := K
  mg := mg
  base := base
  A := A.deeper (PySem.W.ksEnv qual scope s.heap.objs.size f cd cc)
  N := ["self", par]
  s_0 := s
  H_0 := H
  env := PySem.W.ksEnv qual scope s.heap.objs.size f cd cc
  outer := outer
  stack := PySem.W.ksEnv qual scope s.heap.objs.size f cd cc :: outer
  ex := []
  calm := true
  fn := fun x => !(x == ("__class__" : Str))
  pn := []
  xe := fun _ _ => False

/-- what the written part says of such a class and its __init__ -/
structure ExD (P : Program) (K : PySem.W.Frag) (mg : Str → Option Value) (C f cc cda : Addr) (qual : Str) (params : Arguments) (body : List Stmt) (scope : Scope) (fd : FuncData) : Prop where
  T : OexC K C
  fdat : ∃ kV doc pm an ct, fd = PySem.W.ksFn "__init__" qual params body scope .none kV doc pm an (.ref cda) ct cc
  lk : ∃ oc od osl, K.lookup f = some ⟨oc, od, .func fd, osl⟩
  code : PySem.W.codeIn K (.ref cda) qual = true
  file : ∃ ccl cdd vs ccs fl tf, K.lookup cda = some ⟨ccl, cdd, .fields vs, ccs⟩ ∧ vs[2]? = some (.str fl tf) ∧ ((P.main.file : Str) == fl) = true
  cell : ∃ cl cld csl, K.lookup cc = some ⟨cl, cld, .cell (some (.ref C)), csl⟩
  cls : ∃ cd, PySem.W.clsIn K C = some cd ∧ PySem.W.alongIn K "__init__" ((cd.mro.dropWhile (· != .ref C)).drop 1) = some (some (.builtin "ValueError.__init__"))
  self : PySem.W.mroIn K C (.ref C) = some true
  ve : PySem.W.subIn K (.ref C) (.type "ValueError") = some true
  opq : PySem.W.nsIn K PySem.cStatics "thirdparty.any" = some none
  sup : mg "super" = none
  top : (P.main.scope.names.lookup ("super" : Str)).isSome = false

/-- .. of its text -/
structure ExT (par : Str) (params : Arguments) (scope : Scope) : Prop where
  arg : ∃ ar, (params.posonlyargs ++ params.args).head? = some ar ∧ ar.arg = "self"
  kind : scope.kind = .function
  co : scope.isCoroutine = false
  gen : scope.isGenerator = false
  nd : ("self" : Str) ≠ par
  sup : scope.names.lookup ("super" : Str) = some .globalImplicit
  clsn : scope.names.lookup ("__class__" : Str) = some .free
  s : scope.names.lookup ("self" : Str) = some .local
  p : scope.names.lookup par = some .local
  free : ∀ y ∈ scope.names, y.2 = .free → y.1 = "__class__"
  cell : ∀ y ∈ scope.names, y.2 ≠ .cell

section
variable {P : Program} {w : World} {K : PySem.W.Frag} {mg : Str → Option Value} {base : Heap} {C f cc cda : Addr} {qual par : Str} {params : Arguments} {body : List Stmt} {scope : Scope} {fd : FuncData} {A : Around} {outer : List Env} {s : Shared} {H : Hp}
theorem inv_startE (S : ExT par params scope) (D : ExD P K mg C f cc cda qual params body scope fd) (hd : A.handled = none) (e0 : Env0 P w K mg base A outer s H) {u0 u1 : Value} {v0 v1 : V} (r0 : RelV v0 u0) (r1 : RelV v1 u1) {h1 : Heap} {tk : Nat}
    (hns : h1.Ns s.heap.objs.size (fun x => ([(("self" : Str), u0), (par, u1)] : List (Str × Value)).reverse.lookup x)) (hk : ∀ b o, s.heap.get? b = some o → h1.get? b = some o) :
    Inv (cxE P w K mg base par qual scope f cc (.ref cda) A outer s H) [] [some v0, some v1] H { s with heap := h1, toks := tk } := by
  obtain ⟨cl, cld, csl, hcc⟩ := D.cell
  have hcb := e0.mod.kin _ _ hcc
  have hcs := e0.bs _ _ hcb
  have lkc : ∀ x c, (([(("__class__" : Str), cc)] : List (Str × Addr)).lookup x = some c) → x = "__class__" ∧ c = cc := fun x c e => by
    rw [List.lookup_cons] at e
    split at e
    · rename_i hx
      cases e
      exact ⟨beq_iff_eq.mp hx, rfl⟩
    · cases e
  have noA : ∀ b : Addr, b ∉ ([] : List Addr) := fun b z => absurd z (by simp)
  refine ⟨⟨e0.mod, S.kind, rfl, rfl, Nat.le_refl _, fun y z c h1 h2 => ?_, fun y hy => ?_, fun y c hf h => ?_, fun _ => hd, Around.frames_deeper e0.frames, .inr ⟨rfl, rfl⟩, fun b z => absurd z (noA b), e0.bs, e0.bsz, fun b _ _ => noA b, fun b z => absurd z (noA b), e0.funs, e0.frf⟩,
    rfl, e0.bare, Un.kept hk, ⟨_, hns, fun i y v h1 h2 h3 => ?_⟩, fun y c h => ?_, e0.hok.fresh (Nat.le_refl _), fun y c h => ?_, fun p hp => absurd (show p ∈ ([] : List (Addr × Obj)) from hp) (by simp), e0.hok.kept hk, rfl⟩
  · rw [(lkc _ _ h1).1, (lkc _ _ h2).1]
  · have hy : scope.names.lookup y = some .cell ∨ scope.names.lookup y = some .free := hy
    rcases hy with hy | hy
    · exact absurd rfl (S.cell _ (PySem.mem_of_lookup hy))
    · have e := S.free _ (PySem.mem_of_lookup hy) rfl
      have e : y = "__class__" := e
      subst e
      exact ⟨cc, by show ([(("__class__" : Str), cc)] : List (Str × Addr)).lookup _ = _; rw [List.lookup_cons_self]⟩
  · have e := (lkc _ _ h).1
    subst e
    have hf : (!(("__class__" : Str) == ("__class__" : Str))) = true := hf
    rw [beq_self_eq_true] at hf
    cases hf
  · match i, h1, h2 with
    | 0, h1, h2 =>
      cases h1
      cases h2
      refine ⟨u0, r0, .inl ⟨S.s, ?_⟩⟩
      show ([(par, u1), (("self" : Str), u0)] : List (Str × Value)).lookup ("self" : Str) = some u0
      rw [List.lookup_cons, show (("self" : Str) == par) = false from beq_eq_false_iff_ne.mpr S.nd]
      exact List.lookup_cons_self
    | 1, h1, h2 =>
      cases h1
      cases h2
      refine ⟨u1, r1, .inl ⟨S.p, ?_⟩⟩
      show ([(par, u1), (("self" : Str), u0)] : List (Str × Value)).lookup par = some u1
      exact List.lookup_cons_self
    | i + 2, h1, h2 => cases h1
  · obtain ⟨_, rfl⟩ := lkc _ _ h
    exact ⟨_, _, hk _ _ hcs.1, rfl⟩
  · obtain ⟨_, rfl⟩ := lkc _ _ h
    exact hcs.2

/-- its promise: the exception at a gets a dict with that one attribute -/
def spExc (C : Addr) (attr : Str) : Sp := fun vs H Q _ => ∃ a y, vs = [.ref a, y] ∧ H a = some (exo a C none) ∧ ∀ dx, H dx = none → dx ≠ a → Q .non (upd (upd H dx (exd dx [(attr, y)])) a (exo a C (some dx)))
theorem fn_exc {CX : CXT} {k : Nat} {attr msg : Str} {j : Nat} {p0 p1 p2 p3 p4 p5 p6 p7 p8 p9 : Pos} (S : ExT par params scope) (D : ExD P K mg C f cc cda qual params body scope fd)
    (hb : body = [.Expr (.Call (.Attribute (.Call (.Name "super" p0) [] [] p1) "__init__" p2) [.Constant (.str msg) j p3] [] p4) p5, .Assign [.Attribute (.Name "self" p6) attr p7] (.Name par p8) p9])
    (hno : PySem.W.findIn K (.ref C) attr = some none) (hdp : (par == ("__debug__" : Str)) = false) (hcp : (par == ("__classdict__" : Str)) = false)
    (hev : ∀ env : Env, ∃ pl : Sem Bool, eval (.Call (.Attribute (.Call (.Name "super" p0) [] [] p1) "__init__" p2) [.Constant (.str msg) j p3] [] p4) env = (do
      let ov ← attributeBase (.Call (.Name "super" p0) [] [] p1) "__init__" env (eval (.Call (.Name "super" p0) [] [] p1) env)
      standAt p2.atName
      let (f, first) ← holding [ov] (getMethod ov "__init__" pl)
      callWith p4 f first (backTo p4 (starEach [.Constant (.str msg) j p3] env)) []))
    (hsw : ∀ env, swapsWith (.Name par p8) (some (.Attribute (.Name "self" p6) attr p7)) p9.line env = pure false) :
    FnOk P w K mg base CX (k + 1) f fd ["self", par] (spExc C attr) := by
  refine ⟨fun vs H Q E h => ?_, fun A outer s H args us vs Q E hr e0 hbind r hsp => ?_⟩
  · obtain ⟨a, y, rfl, _⟩ := h
    rfl
  obtain ⟨a, y, rfl, ha, q⟩ := hsp
  obtain ⟨u1, rfl⟩ : ∃ u1, us = [.ref a, u1] := by
    match us, r with
    | [_, u1], .cons r0 (.cons _ .nil) => cases r0; exact ⟨u1, rfl⟩
  have r1 : RelV y u1 := by
    cases r with
    | cons _ rr => cases rr with
      | cons r1 _ => exact r1
  obtain ⟨oc, od, osl, lk⟩ := D.lk
  have KX : K.In s.heap := e0.mod.kin.keeps fun b o e => (e0.bs b o e).1
  have lim : s.heap.NoLimit := e0.mod.nolimit.keeps fun b o e => (e0.bs b o e).1
  obtain ⟨kV, doc, pm, an, ct, hfd⟩ := D.fdat
  subst hfd
  refine PySem.ks_codeAny_call_defAt (fd := PySem.W.ksFn "__init__" qual params body scope .none kV doc pm an (.ref cda) ct cc) (body := body) (binds := [("self", .ref a), (par, u1)]) hr.depth (KX _ _ lk) rfl lim (PySem.W.codeRec_of KX D.code) rfl hbind S.cell ?_ (fun h1 hns hk => ?_) S.co S.gen S.kind
  · intro x hx
    rcases List.mem_cons.mp hx with rfl | hx
    · exact S.s
    · rw [List.mem_singleton.mp hx]; exact S.p
  have I := inv_startE (tk := s.toks + 2) S D hr.hd e0 (u0 := .ref a) (v0 := .ref a) rfl r1 hns hk
  show PySem.wpAt (model P w) (cxE P w K mg base par qual scope f cc (.ref cda) A outer s H).A (.func body (cxE P w K mg base par qual scope f cc (.ref cda) A outer s H).env) (execs body (cxE P w K mg base par qual scope f cc (.ref cda) A outer s H).env) _ _ { s with heap := h1, toks := s.toks + 2 }
  -- the rest, from any state behind the first row
  have rest : ∀ s5, Inv (cxE P w K mg base par qual scope f cc (.ref cda) A outer s H) [] [some (.ref a), some y] H s5 → wpAny (model P w) (cxE P w K mg base par qual scope f cc (.ref cda) A outer s H).A (execs [.Assign [.Attribute (.Name "self" p6) attr p7] (.Name par p8) p9] (cxE P w K mg base par qual scope f cc (.ref cda) A outer s H).env)
      (fun fl s' => CR CX outer P w H s Q E (.ok (.ret (match fl with | .ret v => v | _ => .none))) s') (fun _ _ => False) s5 := fun s5 J => by
    have ps : PSs (cxE P w K mg base par qual scope f cc (.ref cda) A outer s H) [.Assign [.Attribute (.Name "self" p6) attr p7] (.Name par p8) p9] (tOst K attr (tVar 0) (tVar 1)) :=
      pss_one (ps_ost (pe_var (i := 0) rfl (.inl S.s)) (pe_var (i := 1) rfl (.inl S.p) hdp hcp) (hsw _))
    refine wpAny_mono (ps.run [] s5 [some (.ref a), some y] H { nx := fun _ H' => Q .non H', rt := fun _ _ => False, bk := fun _ _ => False, ct := fun _ _ => False } J ⟨y, rfl, .ref a, rfl, a, C, rfl, D.T, hno, .inl ⟨ha, fun dx n1 n2 => q dx n1 n2⟩⟩) (fun fl s' hs => ?_) fun _ _ z => z
    cases fl with
    | next =>
      obtain ⟨σ', H', J', q'⟩ := hs
      exact ⟨.non, H', J'.os, J'.bare, J'.base, J'.hok, rfl, q'⟩
    | ret u => obtain ⟨_, _, _, _, _, z⟩ := hs; exact z.elim
    | brk => obtain ⟨_, _, _, z⟩ := hs; exact z.elim
    | cont => obtain ⟨_, _, _, z⟩ := hs; exact z.elim
  obtain ⟨ar, har, hself⟩ := S.arg
  obtain ⟨ccl, cdd, vs, ccs, fl, tf, hcode, hvs, hfile⟩ := D.file
  obtain ⟨cl, cld, csl, hcell⟩ := D.cell
  obtain ⟨cd, hcd, halong⟩ := D.cls
  obtain ⟨mb, b1, b2⟩ := e0.mod.blt
  have K1 : K.In h1 := KX.keeps hk
  obtain ⟨oC, hC1, hC2⟩ : ∃ oC, h1.get? C = some oC ∧ oC.data = .cls cd := by
    unfold PySem.W.clsIn at hcd
    split at hcd
    · rename_i c d' cd' sl ho
      cases hcd
      exact ⟨_, K1 _ _ ho, rfl⟩
    · cases hcd
  obtain ⟨t0, hx⟩ := exo_at I.hok ha
  have hx : h1.get? a = some ({ cls := .ref C, dict := none, data := .fields #[.ref t0, .none, .none, .none, .bool false, .none] } : Obj) := hx
  subst hb
  have hnc : ∀ c, ({ cls := .ref C, dict := none, data := .fields #[.ref t0, .none, .none, .none, .bool false, .none] } : Obj).data ≠ .cls c := fun c z => nomatch z
  obtain ⟨pl, hpl⟩ := hev (cxE P w K mg base par qual scope f cc (.ref cda) A outer s H).env
  refine ks_wpAt_execs_cons (ks_wpAt_Expr_any (ks_wpAt_MethodCall (pl := pl) (ks_wpAt_super_base (f := f) (cc := cda) S.sup S.clsn (by decide) rfl (K1 _ _ lk) rfl har rfl (K1 _ _ hcode) rfl hvs hfile D.top ?_) hpl) I.quiet)
  refine PySem.W.ks_loadName_global S.kind S.sup (Calls.loadGlobal_builtin (e0.mod.glob.keeps I.bk) D.sup (b1.keeps I.bk) ((b2 "super" (by decide)).trans (by rfl)) ⟨rfl, ?_⟩)
  refine wpAny_loadName_free (c := cc) S.kind S.clsn rfl ⟨_, K1 _ _ hcell, rfl⟩ ?_
  rw [hself]
  refine wpAny_loadName_local S.kind S.s hns (v := .ref a) ?_ ?_
  · show ([(par, u1), (("self" : Str), Value.ref a)] : List (Str × Value)).lookup ("self" : Str) = some (.ref a)
    rw [List.lookup_cons, show (("self" : Str) == par) = false from beq_eq_false_iff_ne.mpr S.nd]
    exact List.lookup_cons_self
  refine ks_wpAny_isType_cls hC1 hC2 ⟨rfl, ?_⟩
  refine ks_wpAny_call_super hC1 hC2 hx rfl hnc (PySem.W.looks_mroIn K1 D.self) (fun h2 e2 k2 => ?_)
  have K2 : K.In h2 := K1.keeps k2
  have I2 := I.kept (t' := s.toks + 2) k2
  have hx2 := k2 _ _ hx
  have hI : PySem.W.Looks (model P w) h2 (isInstance (.ref a) (.type "ValueError")) true := (show PySem.W.InstAt h2 a _ C none from ⟨hx2, rfl, rfl, trivial⟩).type.andThen (PySem.W.looks_subIn K2 D.ve)
  have hxC : a ≠ C := fun z => by
    rw [z, hC1] at hx
    cases hx
    cases hC2
  refine PySem.W.kxs_getMethod PySem.W.kxs_ValueError e2 (PySem.W.looks_opaque K2 D.opq) (l₀ := cd.mro) (fun A Q E s k q => wpAny_bind ((PySem.W.looks_clsIn K2 hcd) A _ E s k (wpAny_pure q))) rfl K2 halong hI hxC (by decide) ?_
  have I3 := I2.kept (t' := s.toks + 2 + 1) (h' := h2.push (PySem.W.kxs_mw "ValueError.__init__" a)) fun b o e => Heap.get?_push_of_some _ e
  have hmw : (h2.push (PySem.W.kxs_mw "ValueError.__init__" a)).get? h2.objs.size = some (PySem.W.kxs_mw "ValueError.__init__" a) := Heap.get?_push_size _ rfl
  have I4 := I3.pins_of (pins' := [(h2.objs.size, PySem.W.kxs_mw "ValueError.__init__" a)]) fun p hp => by
    rw [List.mem_singleton.mp hp]
    exact ⟨hmw, I2.hok.fresh (Nat.le_refl _), Nat.ne_of_gt I2.lt, I2.nofs (Nat.le_refl _), fun v z => nomatch z⟩
  have hst : starEach [.Constant (.str msg) j p3] (cxE P w K mg base par qual scope f cc (.ref cda) A outer s H).env = (false, eval (.Constant (.str msg) j p3) (cxE P w K mg base par qual scope f cc (.ref cda) A outer s H).env) :: starEach [] (cxE P w K mg base par qual scope f cc (.ref cda) A outer s H).env := by rfl
  have pa : PA (cxE P w K mg base par qual scope f cc (.ref cda) A outer s H) [.Constant (.str msg) j p3] (tCons (tC (.str msg)) tNil) := pa_cons pe_str pa_nil
  have run := pa.run p4 _ _ _ _ (fun vs H1 => vs = [.str msg] ∧ H1 = H) I4 ⟨rfl, rfl⟩
  rw [hst] at run ⊢
  refine PySem.W.kxs_callWith (i := "ValueError.__init__") (x := a) (by rfl) ?_
  refine Calls.evalArgs_plain ?_
  refine wpAny_mono run (fun us s3 z => ?_) fun _ _ z => z.elim
  obtain ⟨vs3, H3, I5, r3, rfl, rfl⟩ := z
  have hpin := I5.pin _ (List.mem_append_right _ (List.mem_singleton.mpr rfl))
  refine ⟨hpin.1, ?_⟩
  obtain ⟨nm, q', N, bs, bm, sn, sub, ab, col, dd, k0, k1, k2', k3, k5, hCo, hbm⟩ := D.T.cls
  obtain ⟨t1, hx3⟩ := exo_at I5.hok ha
  have K5 : K.In s3.heap := I5.kIn
  obtain ⟨hp, g, d, t, os⟩ := s3
  have hlen : us.length ≤ sizeLine := by
    rw [← Paired.length r3]
    show 1 ≤ sizeLine
    decide
  refine call_bwV (K5 _ _ hCo) hx3 hpin.1 hlen fun h' t2 kk hx' => ?_
  have J := I5.write (t' := t) (x := a) (e := a) (o := exo a C none) (by rw [ha]; exact True.intro) (.inl rfl) kk ⟨_, hx'⟩ (exo_ok hx')
  have eu : upd H3 a (exo a C none) = H3 := by
    funext b
    by_cases hb : b = a
    · rw [hb, upd_same, ha]
    · rw [upd_ne hb]
  rw [eu] at J
  exact wpAt_of_wpAny (wpAny_mono (rest _ (J.pins_of (pins' := []) fun p hp => nomatch hp)) (fun _ _ z => z) fun _ _ z => z.elim)
end
end WW

set_option Elab.async false
set_option linter.all false
set_option maxRecDepth 100000
set_option maxHeartbeats 4000000
/-! raise of an own exception made with one argument that it keeps. -/
namespace WW
open PySem PySem.Spec PyProof.Rows L2
/-- the class x of the module's names can be raised with one argument, which it keeps as attr -/
structure ExR (P : Program) (w : World) (K : PySem.W.Frag) (mg : Str → Option Value) (base : Heap) (k : Nat) (x : Str) (C : Addr) (attr : Str) : Prop where
  T : OexC K C
  ini : ∃ fI fd par, PySem.W.findIn K (.ref C) "__init__" = some (some (.ref fI)) ∧ PySem.W.typeIn K (.ref fI) = some (.type "function") ∧ FnOk P w K mg base CXn k fI fd ["self", par] (spExc C attr) ∧ Binds K fd ["self", par] []
  g : mg x = some (.ref C)
/-- raise x(e) -/
def tRaiseE (C : Addr) (attr : Str) (W : WX) (te : TE) : TS := fun _ σ H => tMkO C (spExc C attr) [] (tCons te tNil) σ H fun cls d H' => W cls d σ H'
theorem ps_raiseE {X : Cx} {W : WX} {k : Nat} {x : Str} {C : Addr} {attr : Str} {e : Expr} {te : TE} {p pos pos2 : Pos} (D : ExR X.prog X.w X.K X.mg X.base k x C attr) (hc : X.calm = true) (hr : Room (k + 1) X.A) (tk : Takes X W) (hg : Gl X x) (he : PE X e te)
    (hdb : (x == ("__debug__" : Str)) = false := by decide) (hs : starEach [e] X.env = (false, eval e X.env) :: starEach [] X.env := by rfl) (hpl : (backTo pos (starEach [] X.env)).any (·.1) = false := by rfl) :
    PS X (.Raise (some (.Call (.Name x p) [e] [] pos)) none pos2) (tRaiseE C attr W te) := by
  obtain ⟨fI, fd, par, h1, h2, h3, h4⟩ := D.ini
  exact ps_raise hc tk (pmk_oex D.T h1 h2 h3 hr h4 .nil (fun _ _ _ _ _ _ _ h => h.elim) hg D.g (pa_cons he pa_nil hs) hdb hs hpl)
theorem raise_go {C : Addr} {attr : Str} {y : V} {H1 : Hp} {Q : XK} (h : ∀ d, H1 d = none → Q (.ref C) (some d) (upd H1 d (.xd [(attr, y)]))) :
    [y].length ≤ 1000 ∧ ∀ a, H1 a = none → spExc C attr (.ref a :: ([y] ++ [])) (upd H1 a (exo a C none)) (fun v H2 => v = .non ∧ ∃ (d : Addr) (fs : List (Str × V)), H2 a = some (exo a C (some d)) ∧ H2 d = some (exd d fs) ∧ H1 d = none ∧ Q (.ref C) (some d) (upd (del H2 a) d (.xd fs))) (fun _ _ _ => False) := by
  refine ⟨show 1 ≤ 1000 by decide, fun a ha => ⟨a, y, rfl, upd_same, fun dx hd hne => ⟨rfl, dx, [(attr, y)], upd_same, ?_, ?_, ?_⟩⟩⟩
  · rw [upd_ne hne, upd_same]
  · rw [upd_ne hne] at hd; exact hd
  · have e : upd (del (upd (upd (upd H1 a (exo a C none)) dx (exd dx [(attr, y)])) a (exo a C (some dx))) a) dx (.xd [(attr, y)]) = upd H1 dx (.xd [(attr, y)]) := by
      funext b
      by_cases hb : b = dx
      · subst hb; rw [upd_same, upd_same]
      · rw [upd_ne hb, upd_ne hb]
        by_cases hc : b = a
        · subst hc; rw [del_same, ha]
        · rw [del_ne hc, upd_ne hc, upd_ne hb, upd_ne hc]
    rw [e]
    exact h dx (by rw [upd_ne hne] at hd; exact hd)
end WW

set_option Elab.async false
set_option linter.all false
set_option maxRecDepth 100000
set_option maxHeartbeats 4000000
/-! try with several clauses «except x as n». -/
namespace WW
open PySem PySem.Spec PyProof.Rows L2
abbrev Suite : Type := Addr → Value → Option Addr → TS
/-- the clauses' wishes of an exception, from the first on; a clause is (class, slot of its name, suite) -/
def wAsM (K : PySem.W.Frag) (Wout : WX) (D : Ends) : List (Value × Nat × Suite) → WX
  | [] => Wout
  | (c, i, ts) :: r => wAs K c i ts (wAsM K Wout D r) D
inductive HdsAs (X : Cx) : List ExceptHandler → List (Value × Nat × Suite) → Prop
  | done : HdsAs X [] []
  | clause {x n : Str} {c : Value} {i : Nat} {ts : Suite} {b : Stmt} {bs : List Stmt} {p q : Pos} {hds : List ExceptHandler} {l : List (Value × Nat × Suite)} (hc : Names X x c) (hi : X.N[i]? = some n) (hk : X.env.kindOf n = some .local)
      (body : ∀ (a : Addr) (oe : Obj) (cls : Value) (d : Option Addr) (pn : List (Addr × Obj)), Zc cls d oe → (∃ vs, oe.data = .fields vs) → PSs (X.suite a ((a, oe) :: pn)) (b :: bs) (ts a cls d)) (more : HdsAs X hds l) :
      HdsAs X (.ExceptHandler (some (.Name x p)) (some n) (b :: bs) q :: hds) ((c, i, ts) :: l)
/-- the exception a has come to the clauses -/
structure Came (X : Cx) (pins : List (Addr × Obj)) (σ : L2.St) (H : Hp) (B : Heap) (a : Addr) (cls : Value) (d : Option Addr) (s : Shared) : Prop where
  fly : PySem.HandSPX.FlyingZ B (X.env :: X.outer) a (Zc cls d) s.heap
  inv : ∀ h, PySem.HandSPX.FlyingZ B (X.env :: X.outer) a (Zc cls d) h → s.heap.UpToSlots h → Inv X pins σ H { s with heap := h }
  na : H a = none
  nL : a ≠ X.env.locals
  nF : a ∉ X.fs
section
variable {X : Cx} {pins : List (Addr × Obj)} {σ : L2.St} {H : Hp} {B : Heap} {a : Addr} {cls : Value} {d : Option Addr} {s : Shared} {D : Ends} {Wout : WX}
/-- with the exception pinned, as the suite sees it -/
theorem Came.suite (Z : Came X pins σ H B a cls d s) {h : Heap} (f : PySem.HandSPX.FlyingZ B (X.env :: X.outer) a (Zc cls d) h) (u : s.heap.UpToSlots h) :
    ∃ oe, Zc cls d oe ∧ (∃ vs, oe.data = .fields vs) ∧ h.get? a = some oe ∧ Inv (X.suite a ((a, oe) :: (X.pn ++ pins))) [] σ H { s with heap := h } := by
  obtain ⟨oe, vs, e, z, dt⟩ := f.there
  exact ⟨oe, z, ⟨vs, dt⟩, e, (Z.inv h f u).suite e dt Z.na Z.nL Z.nF⟩
/-- no clause takes it -/
theorem Came.pass (Z : Came X pins σ H B a cls d s) (hf : X.env.frame = some X.env.locals) (out : ∀ h, PySem.HandSPX.HeldZ B (X.env :: X.outer) a (Zc cls d) X.env.locals h → s.heap.UpToSlots h → X.xe (.ref a) { s with heap := h }) :
    wpAny (model X.prog X.w) X.A (handleBy (.ref a) X.env []) (SP X pins D) X.xe s := by
  refine wpAny_handleBy_nil ?_
  have up : wpAny (model X.prog X.w) X.A (setFlight (.ref a) X.env.frame) (fun _ t => wpAny (model X.prog X.w) X.A (throw (.ref a) : Sem Flow) (SP X pins D) X.xe t) X.xe s := by
    rw [hf]
    exact PySem.HandSPX.setFlight_upZ Z.fly fun h hh u => wpAny_throw (out h hh u)
  obtain ⟨_, _, _, oe, vs, T, _, _, e, _, dt, v1, _⟩ := id Z.fly
  have nn : ¬ ((Value.ref T == Value.none) = true) := by simp
  unfold PySem.passOn
  refine wpAny_bind (wpAny_field e dt v1 ?_)
  rw [if_neg nn]
  first
    | exact wpAny_bind up
    | exact wpAny_bind (wpAny_pure (wpAny_bind up))
theorem Came.clauses (hN : X.N.Nodup) (ok : X.Ok) (hf : X.env.frame = some X.env.locals) : ∀ {hds : List ExceptHandler} {l : List (Value × Nat × Suite)}, HdsAs X hds l → Came X pins σ H B a cls d s →
    (Wout cls d σ H → ∀ h, PySem.HandSPX.HeldZ B (X.env :: X.outer) a (Zc cls d) X.env.locals h → s.heap.UpToSlots h → X.xe (.ref a) { s with heap := h }) → wAsM X.K Wout D l cls d σ H →
    wpAny (model X.prog X.w) X.A (handleBy (.ref a) X.env hds) (SP X pins D) X.xe s
  | _, _, .done, Z, out, w => Z.pass hf (out w)
  | _, _, .clause (x := x) (n := n) (c := c) (i := i) (ts := ts) (p := p) (q := q) hc hi hk body more, Z, out, w => by
    obtain ⟨yes, hm, wy, wn⟩ := w
    obtain ⟨oe, z, hd, e, S⟩ := Z.suite Z.fly (Heap.UpToSlots.refl _)
    have named : ∀ {R : Value → Shared → Prop} {F : Value → Shared → Prop}, R c s → wpAny (model X.prog X.w) (X.A.mark (some (.ref a))) (eval (.Name x p) X.env) R F s := fun {R F} r =>
      match hc with
      | ⟨g, nd, .inl m⟩ => ld_glob (X := X.suite a ((a, oe) :: (X.pn ++ pins))) S g m r nd
      | ⟨g, nd, .inr ⟨m, b, nn⟩⟩ => ld_blt (X := X.suite a ((a, oe) :: (X.pn ++ pins))) S g m b r nn nd
    have ofCls : PySem.W.Looks (model X.prog X.w) s.heap (typeOf (.ref a)) cls := fun _ _ _ _ k r => wpAny_typeOf_ref (k _ _ e) (by rw [z.1]; exact r)
    refine wpAny_handleBy_cons (codeAny_handlers_test (named ((PySem.W.exm_one (M := model X.prog X.w) S.kIn ofCls hm).here ?_))) (fun r => nomatch r)
    cases yes with
    | false => exact Came.clauses hN ok hf more Z out (wn rfl)
    | true =>
      refine codeAny_handlers_suite_as (PySem.HandSPX.lands_againZ Z.fly fun h f u => ?_)
      obtain ⟨ob, zb, hb, eb, Sb⟩ := Z.suite f u
      refine store_ok (X := X.suite a ((a, ob) :: (X.pn ++ pins))) (v := .ref a) Sb hN hi (.inl hk) rfl (fun t St => ?_) (.inr hk)
      refine wpAny_mono ((body a ob cls d (X.pn ++ pins) zb hb).run [] t _ H _ St (wy rfl a Z.na)) (fun fl t2 r => ?_) fun _ _ r => r.elim
      have gone : ∀ {σ2 : L2.St} {H2 : Hp} {R : Shared → Prop}, Inv (X.suite a ((a, ob) :: (X.pn ++ pins))) [] σ2 H2 t2 → (∀ t3, Inv X pins (σ2.set i none) H2 t3 → R t3) →
          wpAny (model X.prog X.w) X.A (do bindName X.env n .none; unbindBehindTheSuite X.env n q) (fun _ t3 => R t3) X.xe t2 := fun I2 k => gone_ok (I2.unsuite ok) hN hi hk k
      cases fl with
      | ret u =>
        obtain ⟨v2, σ2, H2, I2, rv, k⟩ := r
        exact gone I2 fun _ J => ⟨v2, _, H2, J, rv, k⟩
      | next =>
        obtain ⟨σ2, H2, I2, k⟩ := r
        exact gone I2 fun _ J => ⟨_, H2, J, k⟩
      | brk =>
        obtain ⟨σ2, H2, I2, k⟩ := r
        exact gone I2 fun _ J => ⟨_, H2, J, k⟩
      | cont =>
        obtain ⟨σ2, H2, I2, k⟩ := r
        exact gone I2 fun _ J => ⟨_, H2, J, k⟩
/-- try: body / except c1 as n1: .. / except c2 as n2: .. -/
theorem ps_try_asM {body : List Stmt} {h0 : ExceptHandler} {hds : List ExceptHandler} {l : List (Value × Nat × Suite)} {tb : WX → TS} {pos : Pos} (hs : X.stack = X.env :: X.outer) (hf : X.env.frame = some X.env.locals) (hN : X.N.Nodup) (tk : Takes X Wout)
    (hb : ∀ (W : WX) (pn : List (Addr × Obj)) (xe : Value → Shared → Prop), Takes (X.tr pn xe) W → PassesOwn (model X.prog X.w) X.A X.env xe → PSs (X.tr pn xe) body (tb W)) (hh : HdsAs X (h0 :: hds) l) :
    PS X (.Try body (h0 :: hds) [] [] pos) (fun D σ H => tb (wAsM X.K Wout D l) D σ H) := by
  refine ⟨fun pins s σ H D I h => wpAny_Try_except ?_⟩
  have caught : Takes (X.tr (X.pn ++ pins) fun e s1 => wpAny (model X.prog X.w) X.A (noteFrame e X.env) (fun _ s2 => wpAny (model X.prog X.w) X.A (setFlight e none) (fun _ s3 => wpAny (model X.prog X.w) X.A (handleBy e X.env (h0 :: hds)) (SP X pins D) X.xe s3) X.xe s2) X.xe s1) (wAsM X.K Wout D l) := by
    intro v t x
    obtain ⟨a, B, sI, pins2, σ2, H2, cls, d, rfl, J2, nb, up, sky, na, os, ag, w⟩ := x
    have J := J2.ofTry (pins := pins) I.ok
    have sk : Sky B (X.env :: X.outer) a (Zc cls d) X.env.locals t.heap := hs ▸ sky
    have fr : X.A.frames = some (X.env :: X.outer) := I.ok.frames.trans (congrArg some hs)
    show wpAny (model X.prog X.w) X.A (noteFrame (.ref a) X.env) _ _ _
    refine Sky.land Zc.steady fr hf sk fun h f u => ?_
    have far : a ∉ frs (X.env :: X.outer) := fun m => by
      obtain ⟨oe, vs, e, _, dt⟩ := f.there
      obtain ⟨_, oe2, e2, nf⟩ := PySem.Heap.FunFrames.mem f.2.2.1 m
      cases e.symm.trans e2
      exact nf _ dt
    have Z : Came X pins σ2 H2 B a cls d { t with heap := h } := {
      fly := f
      inv := fun h2 f2 u2 => J.landed nb f2.1 ((up.trans u).trans u2) os ag
      na := na
      nL := fun z => far (List.mem_filterMap.mpr ⟨X.env, List.mem_cons_self, hf.trans (congrArg some z.symm)⟩)
      nF := fun m => by
        obtain ⟨en, me, fe⟩ := List.mem_filterMap.mp m
        exact far (List.mem_filterMap.mpr ⟨en, List.mem_cons_of_mem _ me, fe⟩) }
    exact Z.clauses hN I.ok hf hh (fun w h2 held u2 => tk _ _ ⟨a, B, sI, pins, σ2, H2, cls, d, rfl, J, nb, (up.trans u).trans u2, .inr (.inr (hs ▸ held)), na, os, ag, w⟩) w
  refine wpAny_mono ((hb _ (X.pn ++ pins) _ caught PassesOwn.looking).run [] s σ H D (I.toTry _) h) (fun fl t r => ?_) fun _ _ z => z
  cases fl with
  | next =>
    obtain ⟨σ2, H2, J, k⟩ := r
    exact wpAny_execs_nil ⟨σ2, H2, J.ofTry I.ok, k⟩
  | ret u =>
    obtain ⟨v, σ2, H2, J, rv, k⟩ := r
    exact ⟨v, σ2, H2, J.ofTry I.ok, rv, k⟩
  | brk =>
    obtain ⟨σ2, H2, J, k⟩ := r
    exact ⟨σ2, H2, J.ofTry I.ok, k⟩
  | cont =>
    obtain ⟨σ2, H2, J, k⟩ := r
    exact ⟨σ2, H2, J.ofTry I.ok, k⟩
end
end WW

set_option Elab.async false
set_option linter.all false
set_option maxRecDepth 100000
set_option maxHeartbeats 4000000
/-! Calls of what may raise, inside a try: a def by its name, a class. -/
namespace WW
open PySem PySem.Spec PyProof.Rows L2
section
variable {X : Cx} {CX : CXT} {k n : Nat} {f C : Addr} {fd : FuncData} {ps : List Str} {sp : Sp} {E : L2.St → XK} {x : Str} {p pos : Pos} {e : Expr} {es : List Expr} {t : TA}
theorem pe_clS (c : Callee X.prog X.w X.K X.mg X.base CX k x n sp) (hr : Room k X.A) (hg : Gl X x) (hx : ∀ σ, PassesAt CX X σ (E σ)) (ha : PA X (e :: es) t)
    (hdb : (x == ("__debug__" : Str)) = false := by decide) (he : starEach (e :: es) X.env = (false, eval e X.env) :: starEach es X.env := by rfl) (hpl : (backTo pos (starEach es X.env)).any (·.1) = false := by rfl) :
    PE X (.Call (.Name x p) (e :: es) [] pos) (tCallS sp E t) := by
  obtain ⟨f, fd, ps, _, F, hm, hk, hb⟩ := c.ex
  exact pe_callS F hr hg hm hk hb hx ha hdb he hpl
/-- C(..), whose __init__ may raise -/
def tMakeS (C : Addr) (sp : Sp) (E : L2.St → XK) (t : TA) : TE := fun σ H Q => t σ H fun vs H1 => ∀ o m, H1 o = none → H1 m = none → m ≠ o → sp (.ref o :: vs) (upd (upd H1 m (.own o)) o (.ins C m [])) (fun v H2 => v = .non ∧ Q (.ref o) H2) (E σ)
theorem pe_makeS (M : Mk X.K C f) (F : FnOk X.prog X.w X.K X.mg X.base CX k f fd ps sp) (hr : Room (k + 1) X.A) (hg : Gl X x) (hm : X.mg x = some (.ref C)) (hb : Binds X.K fd ps []) (hx : ∀ σ, PassesAt CX X σ (E σ)) (ha : PA X (e :: es) t)
    (hdb : (x == ("__debug__" : Str)) = false := by decide) (he : starEach (e :: es) X.env = (false, eval e X.env) :: starEach es X.env := by rfl) (hpl : (backTo pos (starEach es X.env)).any (·.1) = false := by rfl) :
    PE X (.Call (.Name x p) (e :: es) [] pos) (tMakeS C sp E t) := by
  refine ⟨fun pins s σ H Q I h => wpAny_Call_Name_kw (ld_glob I hg hm (PySem.W.callWith_K (h₀ := X.base) I.ok.mod.kin M.kp (thn (ha.run pos pins s σ H _ I h) fun us s1 z => ?_) he hpl) hdb)⟩
  obtain ⟨vs, H1, I1, r, q⟩ := z
  refine ⟨I1.kIn, ?_⟩
  have low : s1.heap.objs.size ≤ s1.heap.objs.size + 1 := Nat.le_succ _
  have new := q (s1.heap.objs.size + 1) s1.heap.objs.size (I1.hok.fresh low) (I1.hok.fresh (Nat.le_refl _)) (Nat.ne_of_lt (Nat.lt_succ_self _))
  have rs : Vals (V.ref (s1.heap.objs.size + 1) :: vs) (Value.ref (s1.heap.objs.size + 1) :: us) := .cons rfl r
  have J := I1.made (C := C)
  have many : (Value.ref (s1.heap.objs.size + 1) :: us ++ []).length = ps.length := by rw [List.append_nil, ← rs.length, F.len _ _ _ _ new]
  have bs := hb _ (Value.ref (s1.heap.objs.size + 1) :: us) J.kIn many
  rw [List.append_nil] at bs
  refine wpAny_call (make_map (f := f) I1.kIn M.makes M.init (beq_iff_eq.mp M.fn) (codeAny_mono (F.run _ X.stack _ _ ⟨Value.ref (s1.heap.objs.size + 1) :: us, []⟩ _ _ _ (E σ) (hr.make C us []) (J.env0.make C us []) bs rs new) fun a t z => ?_))
  match a, z with
  | .error _, z => exact hx σ _ _ _ _ t J z
  | .ok (.ret u), z =>
    obtain ⟨v, H2, J2, rv, rfl, k2⟩ := J.after z
    exact ⟨rv, .ref (s1.heap.objs.size + 1), H2, J2, rfl, k2⟩
  | .ok .next, z => exact False.elim z
  | .ok .brk, z => exact False.elim z
  | .ok .cont, z => exact False.elim z
end
end WW

set_option Elab.async false
set_option linter.all false
set_option maxRecDepth 100000
set_option maxHeartbeats 4000000
/-! A head's facts: those of the layer, defs found anyhow, one more Bool. -/
namespace WW
open PySem PySem.Spec PyProof.Rows L2 He
def obsB (fa : List Fa) (fn : List He5.DefA) (ex : PySem.W.Frag → Bool) (K : PySem.W.Frag) : He.AlD := (((fa.all fun f => f.ok K) && ex K) && fn.all fun d => d.ok K, fn.map fun d => He5.fnA K (d.at_ K))
def SaysB (fa : List Fa) (fn : List He5.DefA) (ex : PySem.W.Frag → Bool) (K : PySem.W.Frag) : Prop := obsB fa fn ex K = He5.valA fn
def obsBG (n : Nat) (fa : List Fa) (fn : List He5.DefA) (ex : PySem.W.Frag → Bool) (g : Addr → Option Obj) : He.AlD := obsB fa fn ex (frG g (He5.asA g n))
def hookB (n : Nat) (fa : List Fa) (fn : List He5.DefA) (ex : PySem.W.Frag → Bool) : PySem.W.Hook where
  α := He.AlD
  obs := fun s => obsBG n fa fn ex s.heap.get?
  val := fun _ => He5.valA fn
  says := fun _ h => ∃ K : PySem.W.Frag, K.In h ∧ SaysB fa fn ex K
  of := fun _ _ e => ⟨_, frG_in, e⟩
  keeps := fun _ _ _ ⟨K, hK, c⟩ k => ⟨K, PySem.W.Frag.In.keeps hK k, c⟩
theorem obsBG_eq {n : Nat} {fa : List Fa} {fn : List He5.DefA} {ex : PySem.W.Frag → Bool} {g : Addr → Option Obj} {s : Shared} (h : ∀ a, g a = s.heap.get? a) : obsBG n fa fn ex g = (hookB n fa fn ex).obs s := by
  have e : g = s.heap.get? := funext h
  rw [e] <;> rfl
section
variable {fa : List Fa} {fn : List He5.DefA} {ex : PySem.W.Frag → Bool} {K : PySem.W.Frag}
theorem SaysB.fact (c : SaysB fa fn ex K) {f : Fa} (h : f ∈ fa) : f.ok K = true := by
  have c1 := (ba (ba (show (((fa.all fun f => f.ok K) && ex K) && fn.all fun d => d.ok K) = true from congrArg (fun z : He.AlD => z.1) c)).1).1
  exact List.all_eq_true.mp c1 f h
theorem SaysB.ext (c : SaysB fa fn ex K) : ex K = true :=
  (ba (ba (show (((fa.all fun f => f.ok K) && ex K) && fn.all fun d => d.ok K) = true from congrArg (fun z : He.AlD => z.1) c)).1).2
theorem SaysB.def_ (c : SaysB fa fn ex K) (i : Nat) {d : He5.DefA} (h : fn[i]? = some d := by rfl) : ∃ fd, L2.FunD K d.name d.qual d.params d.body d.scope (d.dvs K) (d.kws K) (d.at_ K) fd := by
  have c2 := (ba (show (((fa.all fun f => f.ok K) && ex K) && fn.all fun d => d.ok K) = true from congrArg (fun z : He.AlD => z.1) c)).2
  have e : fn.map (fun d => He5.fnA K (d.at_ K)) = fn.map He5.DefA.val := congrArg (fun z : He.AlD => z.2) c
  have e2 : (fn.map fun d => He5.fnA K (d.at_ K))[i]? = (fn.map He5.DefA.val)[i]? := by rw [e]
  rw [List.getElem?_map, List.getElem?_map, h] at e2
  exact He5.DefA.funD (Option.some.inj e2) (List.all_eq_true.mp c2 d (List.mem_of_getElem? h))
end
/-- the getter of a property -/
def getr (K : PySem.W.Frag) (C : Addr) (f : Str) : Addr := match PySem.W.recIn K (ma K C f) "property" with
  | some (.ref g :: _) => g
  | _ => 0
def propB (K : PySem.W.Frag) (C : Addr) (f : Str) : Bool := eqO (PySem.W.findIn K (.ref C) f) (some (some (.ref (ma K C f)))) && (eqO (PySem.W.specialIn K (.ref (ma K C f)) "__get__") (some (some (.builtin "property.__get__"))) &&
  (decide (PySem.W.takesIn K (.ref (ma K C f)) = some true) && (match PySem.W.recIn K (ma K C f) "property" with
    | some (.ref g :: _) => true
    | _ => false)))
theorem propB_ok {K : PySem.W.Frag} {C : Addr} {f : Str} (h : propB K C f = true) : PropOf K C f (ma K C f) (getr K C f) := by
  obtain ⟨h1, h⟩ := ba h
  obtain ⟨h2, h⟩ := ba h
  obtain ⟨h3, h4⟩ := ba h
  refine ⟨eqO_ok h1, eqO_ok h2, of_decide_eq_true h3, ?_⟩
  unfold getr
  cases e : PySem.W.recIn K (ma K C f) "property" with
  | none => rw [e] at h4; cases h4
  | some l =>
    cases l with
    | nil => rw [e] at h4; cases h4
    | cons v r =>
      cases v with
      | ref g => exact ⟨r, rfl⟩
      | _ => rw [e] at h4; cases h4
end WW

set_option Elab.async false
set_option linter.all false
set_option maxRecDepth 100000
set_option maxHeartbeats 4000000
/-! A head's facts of own exceptions whose __init__ says super(). -/
namespace WW
open PySem PySem.Spec PyProof.Rows L2 He
def oexB (K : PySem.W.Frag) (C : Addr) : Bool := (match K.lookup C with
  | some ⟨.type "type", _, .cls cd, sl⟩ => (match cd.mro, sl.toList with
    | .ref C' :: bm, [_, _, _, _, some (.builtin n), _] => decide (C' = C) && (decide (n = "ValueError.__new__") && (!cd.hasDel && (cd.hasDict && PySem.HandSPX.refsVE bm)))
    | _, _ => false)
  | _ => false) && (eqO (PySem.W.findIn K (.ref C) "__setattr__") (some (some (.builtin "object.__setattr__"))) && (decide (PySem.W.subIn K (.ref C) (.type "BaseException") = some true) && (decide (PySem.W.typeIn K (.ref C) = some (.type "type")) && PySem.W.keepIn K (.ref C))))
theorem oexB_ok {K : PySem.W.Frag} {C : Addr} (h : oexB K C = true) : OexC K C := by
  obtain ⟨q, h⟩ := ba h
  obtain ⟨h2, h⟩ := ba h
  obtain ⟨h3, h⟩ := ba h
  obtain ⟨h4, h5⟩ := ba h
  refine ⟨?_, eqO_ok h2, of_decide_eq_true h3, of_decide_eq_true h4, h5⟩
  split at q
  · rename_i dd cd sl ho
    split at q
    · rename_i C' bm k0 k1 k2 k3 n k5 hm hs
      simp only [Bool.and_eq_true, decide_eq_true_eq, Bool.not_eq_true'] at q
      obtain ⟨rfl, rfl, hdel, hdict, ht⟩ := q
      obtain ⟨nm, bs, mro, ns, qn, hd, sn, sub, ab, col, del⟩ := cd
      dsimp only at hm hdel hdict
      subst hm hdel hdict
      have hsl : sl = #[k0, k1, k2, k3, some (.builtin "ValueError.__new__"), k5] := by
        obtain ⟨l⟩ := sl
        simp only at hs
        rw [hs]
      subst hsl
      exact ⟨nm, qn, ns, bs, bm, sn, sub, ab, col, dd, k0, k1, k2, k3, k5, ho, ht⟩
    · cases q
  · cases q

abbrev FnE : Type := Option (Str × Str × Arguments × FuncBody × Scope × Addr × List Str × Addr)
def fnE (K : PySem.W.Frag) (a : Addr) : FnE := match K.lookup a with
  | some ⟨_, _, .func fd, _⟩ => some (fd.name, fd.qualname, fd.params, fd.body, fd.scope, fd.globals, fd.closure.map (·.1), fd.builtins)
  | _ => none
structure DefE where
  cls : Str
  qual : Str
  params : Arguments
  body : List Stmt
  scope : Scope
def DefE.val (d : DefE) : FnE := some ("__init__", d.qual, d.params, .stmts d.body, d.scope, mainGlobals, ["__class__"], builtinsNs)
def exI (K : PySem.W.Frag) (x : Str) : Addr := ma K (ga K x) "__init__"
def exCda (K : PySem.W.Frag) (x : Str) : Addr := match K.lookup (exI K x) with
  | some ⟨_, _, .func fd, _⟩ => (match fd.code with
    | .ref c => c
    | _ => 0)
  | _ => 0
def exCc (K : PySem.W.Frag) (x : Str) : Addr := match K.lookup (exI K x) with
  | some ⟨_, _, .func fd, _⟩ => (match fd.closure with
    | [(_, c)] => c
    | _ => 0)
  | _ => 0
def exdB (file : Str) (K : PySem.W.Frag) (d : DefE) : Bool := oexB K (ga K d.cls) && (PySem.W.codeIn K (.ref (exCda K d.cls)) d.qual && ((match K.lookup (exCda K d.cls) with
    | some ⟨_, _, .fields vs, _⟩ => (match (vs[2]? : Option Value) with
      | some (.str fl _) => file == fl
      | _ => false)
    | _ => false) && ((match K.lookup (exCc K d.cls) with
    | some ⟨_, _, .cell (some (.ref D)), _⟩ => decide (D = ga K d.cls)
    | _ => false) && ((match PySem.W.clsIn K (ga K d.cls) with
    | some cd => eqO (PySem.W.alongIn K "__init__" ((cd.mro.dropWhile (· != .ref (ga K d.cls))).drop 1)) (some (some (.builtin "ValueError.__init__")))
    | none => false) && (decide (PySem.W.mroIn K (ga K d.cls) (.ref (ga K d.cls)) = some true) && (decide (PySem.W.subIn K (.ref (ga K d.cls)) (.type "ValueError") = some true) && (eqO (PySem.W.nsIn K PySem.cStatics "thirdparty.any") (some none) && ((match K.lookup (exI K d.cls) with
    | some ⟨_, _, .func fd, _⟩ => decide (fd.code = .ref (exCda K d.cls)) && decide (fd.defaults = .none)
    | _ => false) && (eqO (PySem.W.findIn K (.ref (ga K d.cls)) "__init__") (some (some (.ref (exI K d.cls)))) && decide (PySem.W.typeIn K (.ref (exI K d.cls)) = some (.type "function")))))))))))
theorem exdB_ok {P : Program} {K : PySem.W.Frag} {mg : Str → Option Value} {d : DefE} (h : exdB P.main.file K d = true) (e : fnE K (exI K d.cls) = d.val) (hs : mg "super" = none) (ht : (P.main.scope.names.lookup ("super" : Str)).isSome = false) :
    ∃ fd, ExD P K mg (ga K d.cls) (exI K d.cls) (exCc K d.cls) (exCda K d.cls) d.qual d.params d.body d.scope fd ∧ PySem.W.findIn K (.ref (ga K d.cls)) "__init__" = some (some (.ref (exI K d.cls))) ∧ PySem.W.typeIn K (.ref (exI K d.cls)) = some (.type "function") := by
  obtain ⟨h1, h⟩ := ba h
  obtain ⟨h2, h⟩ := ba h
  obtain ⟨h3, h⟩ := ba h
  obtain ⟨h4, h⟩ := ba h
  obtain ⟨h5, h⟩ := ba h
  obtain ⟨h6, h⟩ := ba h
  obtain ⟨h7, h⟩ := ba h
  obtain ⟨h8, h⟩ := ba h
  obtain ⟨h9, h⟩ := ba h
  obtain ⟨h10, h11⟩ := ba h
  have hcc : exCc K d.cls = (match K.lookup (exI K d.cls) with
    | some ⟨_, _, .func fd, _⟩ => (match fd.closure with
      | [(_, c)] => c
      | _ => 0)
    | _ => 0) := rfl
  cases q : K.lookup (exI K d.cls) with
  | none => rw [q] at h9; cases h9
  | some o =>
    obtain ⟨oc, od, dt, osl⟩ := o
    rw [q] at h9 hcc
    unfold fnE at e
    rw [q] at e
    cases dt with
    | func fd =>
      obtain ⟨n1, n2, n3, n4, n5, n6, n7, n8, n9, n10, n11, n12, n13, n14, n15⟩ := fd
      have e2 : (some (n1, n2, n3, n4, n5, n6, n7.map (·.1), n15) : FnE) = some (("__init__" : Str), d.qual, d.params, FuncBody.stmts d.body, d.scope, mainGlobals, [("__class__" : Str)], builtinsNs) := e
      simp only [Option.some.injEq, Prod.mk.injEq] at e2
      obtain ⟨e1, e2, e3, e4, e5, e6, e7, e8⟩ := e2
      obtain ⟨g1, g2⟩ := ba h9
      have g3 : n13 = .ref (exCda K d.cls) := of_decide_eq_true g1
      have g4 : n8 = .none := of_decide_eq_true g2
      match n7, e7, hcc with
      | [(x, c)], e7, hcc =>
        have ex : x = "__class__" := by simpa using e7
        have hc2 : exCc K d.cls = c := hcc
        subst ex
        rw [← hc2] at q
        refine ⟨_, ⟨oexB_ok h1, ⟨n9, n10, n11, n12, n14, rfl⟩, ⟨oc, od, osl, ?_⟩, h2, ?_, ?_, ?_, of_decide_eq_true h6, of_decide_eq_true h7, eqO_ok h8, hs, ht⟩, eqO_ok h10, of_decide_eq_true h11⟩
        · rw [q, e1, e2, e3, e4, e5, e6, e8, g3, g4]
        · cases z : K.lookup (exCda K d.cls) with
          | none => rw [z] at h3; cases h3
          | some o3 =>
            obtain ⟨a1, a2, a3, a4⟩ := o3
            rw [z] at h3
            cases a3 with
            | fields vs =>
              have h3 : (match (vs[2]? : Option Value) with
                | some (.str fl _) => P.main.file == fl
                | _ => false) = true := h3
              split at h3
              · rename_i fl tf hv
                exact ⟨_, _, vs, _, fl, tf, rfl, hv, h3⟩
              · cases h3
            | _ => cases h3
        · cases z : K.lookup (exCc K d.cls) with
          | none => rw [z] at h4; cases h4
          | some o4 =>
            rw [z] at h4
            split at h4
            · rename_i D a4 hq
              cases hq
              have hD := of_decide_eq_true h4
              subst hD
              exact ⟨_, _, _, rfl⟩
            · cases h4
        · cases z : PySem.W.clsIn K (ga K d.cls) with
          | none => rw [z] at h5; cases h5
          | some cd =>
            rw [z] at h5
            exact ⟨cd, rfl, eqO_ok h5⟩
      | [], e7, _ => cases e7
      | _ :: _ :: _, e7, _ => exact absurd (congrArg List.length e7) (by simp)
    | _ => cases h9
end WW

set_option Elab.async false
set_option linter.all false
set_option maxRecDepth 100000
set_option maxHeartbeats 4000000
/-! A head's facts with the __init__s of own exceptions. -/
namespace WW
open PySem PySem.Spec PyProof.Rows L2 He
abbrev AlE : Type := He.AlD × List FnE
def obsE (fa : List Fa) (fn : List He5.DefA) (fe : List DefE) (ex : PySem.W.Frag → Bool) (K : PySem.W.Frag) : AlE := (obsB fa fn ex K, fe.map fun d => fnE K (exI K d.cls))
def valE (fn : List He5.DefA) (fe : List DefE) : AlE := (He5.valA fn, fe.map DefE.val)
def SaysE (fa : List Fa) (fn : List He5.DefA) (fe : List DefE) (ex : PySem.W.Frag → Bool) (K : PySem.W.Frag) : Prop := obsE fa fn fe ex K = valE fn fe
def obsEG (n : Nat) (fa : List Fa) (fn : List He5.DefA) (fe : List DefE) (ex : PySem.W.Frag → Bool) (g : Addr → Option Obj) : AlE := obsE fa fn fe ex (frG g (He5.asA g n))
def hookE (n : Nat) (fa : List Fa) (fn : List He5.DefA) (fe : List DefE) (ex : PySem.W.Frag → Bool) : PySem.W.Hook where
  α := AlE
  obs := fun s => obsEG n fa fn fe ex s.heap.get?
  val := fun _ => valE fn fe
  says := fun _ h => ∃ K : PySem.W.Frag, K.In h ∧ SaysE fa fn fe ex K
  of := fun _ _ e => ⟨_, frG_in, e⟩
  keeps := fun _ _ _ ⟨K, hK, c⟩ k => ⟨K, PySem.W.Frag.In.keeps hK k, c⟩
theorem obsEG_eq {n : Nat} {fa : List Fa} {fn : List He5.DefA} {fe : List DefE} {ex : PySem.W.Frag → Bool} {g : Addr → Option Obj} {s : Shared} (h : ∀ a, g a = s.heap.get? a) : obsEG n fa fn fe ex g = (hookE n fa fn fe ex).obs s := by
  have e : g = s.heap.get? := funext h
  rw [e] <;> rfl
section
variable {fa : List Fa} {fn : List He5.DefA} {fe : List DefE} {ex : PySem.W.Frag → Bool} {K : PySem.W.Frag}
theorem SaysE.b (c : SaysE fa fn fe ex K) : SaysB fa fn ex K := congrArg (fun z : AlE => z.1) c
theorem SaysE.exc (c : SaysE fa fn fe ex K) (i : Nat) {d : DefE} (h : fe[i]? = some d := by rfl) : fnE K (exI K d.cls) = d.val := by
  have e : fe.map (fun d => fnE K (exI K d.cls)) = fe.map DefE.val := congrArg (fun z : AlE => z.2) c
  have e2 : (fe.map fun d => fnE K (exI K d.cls))[i]? = (fe.map DefE.val)[i]? := by rw [e]
  rw [List.getElem?_map, List.getElem?_map, h] at e2
  exact Option.some.inj e2
end
theorem all_at {l : List Bool} {b : Bool} (h : l.all id = true) (i : Nat) (e : l[i]? = some b) : b = true := List.all_eq_true.mp h b (List.mem_of_getElem? e)
theorem ExD.binds {P : Program} {K : PySem.W.Frag} {mg : Str → Option Value} {C f cc cda : Addr} {qual par : Str} {params : Arguments} {body : List Stmt} {scope : Scope} {fd : FuncData} (D : ExD P K mg C f cc cda qual params body scope fd)
    (h : ∀ (kV doc pm : Value) (an : Option Addr) (ct : Value) (us : List Value), us.length = 2 → bindArgs (PySem.W.ksFn "__init__" qual params body scope .none kV doc pm an (.ref cda) ct cc) ⟨us, []⟩ = pure ((["self", par] : List Str).zip us)) : Binds K fd ["self", par] [] := by
  obtain ⟨kV, doc, pm, an, ct, rfl⟩ := D.fdat
  exact .all fun us hl => h kV doc pm an ct us hl
/-- a promise that never speaks of what is raised: nothing is -/
theorem fn_none {P : Program} {w : World} {K : PySem.W.Frag} {mg : Str → Option Value} {base : Heap} {k : Nat} {f : Addr} {fd : FuncData} {ps : List Str} {sp : Sp} (F : FnOk P w K mg base (L2.CX P w) k f fd ps sp) (h : ∀ vs H Q E, sp vs H Q E → sp vs H Q En) : FnOk P w K mg base CXn k f fd ps sp := by
  refine ⟨F.len, fun A outer s H args us vs Q E hr e0 hbind r hsp => codeAny_mono (F.run A outer s H args us vs Q En hr e0 hbind r (h _ _ _ _ hsp)) fun a t z => ?_⟩
  match a, z with
  | .error _, z =>
    obtain ⟨_, _, _, _, _, _, _, _, _, _, _, _, q⟩ := z
    exact q.elim
  | .ok (.ret u), z => exact z
  | .ok .next, z => exact z
  | .ok .brk, z => exact z
  | .ok .cont, z => exact z
end WW

set_option Elab.async false
set_option linter.all false
set_option maxRecDepth 100000
set_option maxHeartbeats 4000000
namespace WK
open PySem PySem.Spec PyProof.Rows L2 WW Evl TL
/-- the words of the wordings -/
structure Wd (mg : Str → Option Value) : Prop where
  KEPT : ∃ t, mg "KEPT" = some (.str tKept t)
  TOLD : ∃ t, mg "TOLD" = some (.str tTold t)
  WARNED : ∃ t, mg "WARNED" = some (.str tWarned t)
  HIDDEN : ∃ t, mg "HIDDEN" = some (.str tHidden t)
  SURE : ∃ t, mg "SURE" = some (.str tSure t)
  WITHIN : ∃ t, mg "WITHIN" = some (.str tWithin t)
  AHEAD : ∃ t, mg "AHEAD" = some (.str tAhead t)
  JOINTLY : ∃ t, mg "JOINTLY" = some (.str tJointly t)
  BY : ∃ t, mg "BY" = some (.str tBy t)
  NO_WORDS : ∃ t, mg "NO_WORDS" = some (.str mn1 t)
/-- which item is less than the next -/
def ltAt (zs : List Str) : V → Bool
  | .int i => decide ((zs.getD i.toNat Str.empty).cps.toList < (zs.getD (i.toNat + 1) Str.empty).cps.toList)
  | _ => true
theorem asc_all (zs : List Str) : (((List.range (zs.length - 1)).map fun (i : Nat) => V.int (0 + (i : Int))).map (ltAt zs)).all id = ascS zs := by
  rw [List.map_map, List.all_map]
  unfold ascS
  congr 1
  funext i
  show decide _ = decide _
  have : (0 + (i : Int)).toNat = i := by omega
  rw [this]
theorem getD_of {zs : List Str} {i : Nat} {z : Str} (h : zs[i]? = some z) : zs.getD i Str.empty = z := by
  rw [List.getD_eq_getElem?_getD, h]
  rfl
/-- of names all -/
theorem names_at {p : Addr} {n : Nat} {H : Hp} : ∀ {xs : List V} {ds : List PyData}, Paired (At p n H) xs ds → ds.all nmD = true → xs = (ds.map stD).map V.str
  | _, _, .nil, _ => rfl
  | _, _, .cons g t, h => by
    rw [List.all_cons, Bool.and_eq_true] at h
    obtain ⟨z, rfl, _⟩ := nmD_str h.1
    rw [names_at t h.2, (g.strs).1]
    rfl
theorem nm_all {p : Addr} {n : Nat} {H : Hp} : ∀ {xs : List V} {ds : List PyData}, Paired (At p n H) xs ds → xs.map nmB = ds.map nmD
  | _, _, .nil => rfl
  | _, _, .cons g t => by rw [List.map_cons, List.map_cons, nm_all t, g.nm]
section
variable {P : Program} {w : World} {K : PySem.W.Frag} {mg : Str → Option Value} {base : Heap} {f : Addr} {fd : FuncData}
abbrev s_is_tuple_of_words : Stmt := top 22
theorem sc_is_tuple_of_words : FnScope ["thing", "word", "at"] ["thing"] (defScope s_is_tuple_of_words) := ⟨rfl, rfl, rfl, by decide +kernel, rfl, by decide +kernel, by decide +kernel⟩
def spIsTupW : Sp := fun vs H Q _ => ∃ p n v d, vs = [v] ∧ At p n H v d ∧ ∀ H', Ex H H' → Q (.bl (wdsD d)) H'
theorem ok_is_tupW (G : Gz mg) (D : Df K mg "is_tuple_of_words" s_is_tuple_of_words f fd ["thing"]) (c_is_name : Callee P w K mg base CXn 1 "is_name" 1 spIsNameG) : Callee P w K mg base CXn 2 "is_tuple_of_words" 1 spIsTupW := by
  refine D.callee (D.fn.ok sc_is_tuple_of_words (fun vs H Q E h => ?_) (fun cdv A outer s H vs Q E hr h => ⟨_, PSs.nox (pss_cons (ps_if (PW.pt (pw_or (pt_not (pt_val (pe_callB (isiK (K := K) rfl) rfl G.g_isinstance (by rfl) (pa_cons (pv 0) (pa_cons (pe_bltn (v := .ty "tuple") rfl G.g_tuple (by rfl) rfl) pa_nil))))) (pw_or1 (pt_not (pt_val (pe_callB (cr_all rfl) rfl G.g_all (by rfl) (pa_cons (pe_lc (own := [("word", 1)]) rfl sc_is_tuple_of_words.nd (pi_tup (pv 0)) (BlkOk.mk (N := ["thing", "word", "at"]) (sc := defScope s_is_tuple_of_words) rfl (by decide +kernel) (by decide +kernel) (by decide +kernel) (by decide +kernel)) (fun _ _ _ _ _ => (pg_name (i := 1) sc_is_tuple_of_words.nd rfl (Or.inl rfl))) (fun _ _ _ _ _ => pts_nil) (fun _ _ _ _ _ => (pe_cl (E := En) c_is_name (hr.mono (by decide)) rfl passN (pa_cons (pv 1) pa_nil)))) pa_nil))))))) (pss_one (ps_ret pe_bl)) pss_nil) (pss_one (ps_ret (pe_callB (cr_all rfl) rfl G.g_all (by rfl) (pa_cons (pe_lc (own := [("at", 2)]) rfl sc_is_tuple_of_words.nd (pi_range1 rfl G.g_range (pa_cons (pe_op op_sub (pe_callB (lenK (K := K) rfl) rfl G.g_len PySem.boot_len (pa_cons (pv 0) pa_nil)) pe_int) pa_nil)) (BlkOk.mk (N := ["thing", "word", "at"]) (sc := defScope s_is_tuple_of_words) rfl (by decide +kernel) (by decide +kernel) (by decide +kernel) (by decide +kernel)) (fun _ _ _ _ _ => (pg_name (i := 2) sc_is_tuple_of_words.nd rfl (Or.inl rfl))) (fun _ _ _ _ _ => pts_nil) (fun _ _ _ _ _ => (pe_cmpR op_lt_str (pe_ix (ixK (K := K) rfl) (pv 0) (pv 2) (fun _ _ => rfl)) (pe_ix (ixK (K := K) rfl) (pv 0) (pe_op op_add (pv 2) pe_int) (fun _ _ => rfl)) (nomark _)))) pa_nil))))), ?_⟩))
  · obtain ⟨_, _, _, _, rfl, _⟩ := h
    rfl
  · obtain ⟨p, n, v, d, rfl, hv, k⟩ := h
    obtain ⟨t, g⟩ := hv.pl.kin (K := K)
    refine ⟨_, rfl, v, .ty "tuple", t, .type "tuple", isT H v, rfl, .ty _, g.ty, g.tuple, isT H v, rfl, ?_⟩
    rcases hv.isT with ⟨m', a, xs, ds, _, rfl, np, rfl, ha, l, pr, e⟩ | ⟨e, nt⟩
    rotate_left
    · rw [e]
      have q := k H (Ex.refl _)
      rw [show wdsD d = false by cases d <;> first | rfl | exact absurd rfl (nt _)] at q
      exact iteT q
    rw [e]
    refine iteF ?_
    refine ⟨_, rfl, a, rfl, ⟨_, st_of ha⟩, fun N hN => ?_⟩
    refine lc_ev (f := fun _ => true) (v := fun x => .bl (nmB x)) (st_t (K := K) (st_of ha)) (by omega) (fun x => rfl) hN (fun x _ H2 e Q q => q H2 (Ex.refl _)) (fun x hx _ H2 e Q q => ?_) (fun H2 e hd => ?_)
    · obtain ⟨i, hi⟩ := List.getElem?_of_mem hx
      obtain ⟨d, _, gx⟩ := prd_at pr hi
      exact ⟨_, rfl, x, rfl, (gx.ex e).pl, gx.nmz, fun H3 e3 => q H3 e3⟩
    refine ⟨N, xs.map nmB, rfl, sq_of ?_, ?_⟩
    · rw [hd, List.filter_eq_self.mpr (fun _ _ => rfl), List.map_map]
      rfl
    rw [nm_all pr, List.all_map]
    have ew : wdsD (.tuple ds) = (ds.all nmD && ascS (ds.map stD)) := rfl
    refine ⟨_, rfl, ?_⟩
    show if (!ds.all nmD) = true then _ else _
    cases hb : ds.all nmD with
    | false =>
      have q := k _ e
      rw [ew, hb] at q
      exact iteT q
    | true =>
      refine iteF ?_
      have ex := names_at pr hb
      have hl : xs.length = (ds.map stD).length := by rw [ex, List.length_map]
      generalize hzs : ds.map stD = zs at ex hl
      have ha2 := e _ _ ha
      refine ⟨_, rfl, .ref a, xs.length, rfl, .inr ⟨_, st_of ha2, rfl⟩, _, _, rfl, rfl, _, rfl, (by omega), (by omega), fun N2 hN2 => ?_⟩
      have er : (((xs.length : Nat) : Int) - 1).toNat = zs.length - 1 := by omega
      rw [er]
      refine lc_ev (f := fun _ => true) (v := fun x => .bl (ltAt zs x)) st_r (by rw [List.length_map, List.length_range]; omega) (fun x => rfl) hN2 (fun x _ H3 e Q q => q H3 (Ex.refl _)) (fun x hx _ H3 e3 Q q => ?_) (fun H3 e3 hd3 => ?_)
      · obtain ⟨i, hi, rfl⟩ := List.mem_map.mp hx
        have hi2 := List.mem_range.mp hi
        have hz1 : zs[i]? = some zs[i] := List.getElem?_eq_getElem (by omega)
        have hz2 : zs[i + 1]? = some zs[i + 1] := List.getElem?_eq_getElem (by omega)
        have hx1 : xs[i]? = some (.str zs[i]) := by rw [ex, List.getElem?_map, hz1]; rfl
        have hx2 : xs[i + 1]? = some (.str zs[i + 1]) := by rw [ex, List.getElem?_map, hz2]; rfl
        have ha3 := e3 _ _ ha2
        have q1 := q H3 (Ex.refl _)
        have e4 : ltAt zs (.int (0 + (i : Int))) = decide (zs[i].cps.toList < zs[i + 1].cps.toList) := by
          show decide _ = _
          have : (0 + (i : Int)).toNat = i := by omega
          rw [this, getD_of hz1, getD_of hz2]
        rw [e4] at q1
        refine ⟨_, rfl, _, rfl, .inr (.inl ⟨a, xs, _, _, rfl, rfl, st_of ha3, at_of (j := i) (by omega) hx1, _, rfl, _, rfl, _, _, rfl, rfl, .inr (.inl ⟨a, xs, _, _, rfl, rfl, st_of ha3, at_of (j := i + 1) (by omega) hx2, ?_⟩)⟩)⟩
        exact ⟨_, _, rfl, rfl, q1⟩
      refine ⟨N2, ((List.range (zs.length - 1)).map fun (i : Nat) => V.int (0 + (i : Int))).map (ltAt zs), rfl, sq_of ?_, ?_⟩
      · rw [hd3, List.filter_eq_self.mpr (fun _ _ => rfl), List.map_map, List.map_map, List.map_map]
        rfl
      · rw [asc_all]
        have q := k _ (e.trans e3)
        rw [ew, hb, hzs] at q
        exact q
abbrev s_is_form : Stmt := top 20
theorem sc_is_form : FnScope ["thing", "form", "about", "more"] ["thing"] (defScope s_is_form) := ⟨rfl, rfl, rfl, by decide +kernel, rfl, by decide +kernel, by decide +kernel⟩
def spIsForm : Sp := fun vs H Q _ => ∃ p n v d, vs = [v] ∧ At p n H v d ∧ ∀ H', Ex H H' → Q (.bl (formD d)) H'
theorem ok_is_form (G : Gz mg) (WD : Wd mg) (D : Df K mg "is_form" s_is_form f fd ["thing"]) (c_is_tuple_of : Callee P w K mg base CXn 1 "is_tuple_of" 2 spIsTupOf) (c_is_word : Callee P w K mg base CXn 1 "is_word" 2 spIsWord) (c_is_name : Callee P w K mg base CXn 1 "is_name" 1 spIsNameG)
    (c_is_count : Callee P w K mg base CXn 3 "is_count" 1 spIsCount) (c_is_flag : Callee P w K mg base CXn 1 "is_flag" 1 spIsFlag) (c_is_tuple_of_words : Callee P w K mg base CXn 2 "is_tuple_of_words" 1 spIsTupW) : Callee P w K mg base CXn 4 "is_form" 1 spIsForm := by
  obtain ⟨t_KEPT, g_KEPT⟩ := WD.KEPT
  have r_KEPT : RelV (.str tKept) (.str tKept t_KEPT) := ⟨_, rfl⟩
  obtain ⟨t_TOLD, g_TOLD⟩ := WD.TOLD
  have r_TOLD : RelV (.str tTold) (.str tTold t_TOLD) := ⟨_, rfl⟩
  obtain ⟨t_WARNED, g_WARNED⟩ := WD.WARNED
  have r_WARNED : RelV (.str tWarned) (.str tWarned t_WARNED) := ⟨_, rfl⟩
  obtain ⟨t_HIDDEN, g_HIDDEN⟩ := WD.HIDDEN
  have r_HIDDEN : RelV (.str tHidden) (.str tHidden t_HIDDEN) := ⟨_, rfl⟩
  obtain ⟨t_SURE, g_SURE⟩ := WD.SURE
  have r_SURE : RelV (.str tSure) (.str tSure t_SURE) := ⟨_, rfl⟩
  refine D.callee (D.fn.ok sc_is_form (fun vs H Q E h => ?_) (fun cdv A outer s H vs Q E hr h => ⟨_, PSs.nox (pss_cons (ps_if (pt_val (pe_cl (E := En) c_is_tuple_of (hr.mono (by decide)) rfl passN (pa_cons (pv 0) (pa_cons pe_int pa_nil)))) (pss_one (ps_ret (pe_cl (E := En) c_is_word (hr.mono (by decide)) rfl passN (pa_cons (pe_ix (ixK (K := K) rfl) (pv 0) pe_int (fun _ _ => rfl)) (pa_cons (pe_glob rfl g_KEPT r_KEPT) pa_nil))))) pss_nil) (pss_cons (ps_if (pt_not (pt_val (pe_cl (E := En) c_is_tuple_of (hr.mono (by decide)) rfl passN (pa_cons (pv 0) (pa_cons pe_int pa_nil))))) (pss_one (ps_ret pe_bl)) pss_nil) (pss_cons (ps_asg (pv 0) (pg_tup rfl (pgs_cons (pg_name (i := 1) sc_is_form.nd rfl (Or.inl rfl)) (pgs_cons (pg_name (i := 2) sc_is_form.nd rfl (Or.inl rfl)) (pgs_cons (pg_name (i := 3) sc_is_form.nd rfl (Or.inl rfl)) pgs_nil))))) (pss_cons (ps_if (PW.pt (pw_or (pt_val (pe_cl (E := En) c_is_word (hr.mono (by decide)) rfl passN (pa_cons (pv 1) (pa_cons (pe_glob rfl g_TOLD r_TOLD) pa_nil)))) (pw_or1 (pt_val (pe_cl (E := En) c_is_word (hr.mono (by decide)) rfl passN (pa_cons (pv 1) (pa_cons (pe_glob rfl g_WARNED r_WARNED) pa_nil))))))) (pss_one (ps_ret (L2.pe_and (pe_cl (E := En) c_is_name (hr.mono (by decide)) rfl passN (pa_cons (pv 2) pa_nil)) (pe_one (pe_cl (E := En) c_is_count (hr.mono (by decide)) rfl passN (pa_cons (pv 3) pa_nil)))))) pss_nil) (pss_cons (ps_if (pt_val (pe_cl (E := En) c_is_word (hr.mono (by decide)) rfl passN (pa_cons (pv 1) (pa_cons (pe_glob rfl g_HIDDEN r_HIDDEN) pa_nil)))) (pss_one (ps_ret (L2.pe_and (pe_cl (E := En) c_is_name (hr.mono (by decide)) rfl passN (pa_cons (pv 2) pa_nil)) (pe_one (pe_cl (E := En) c_is_flag (hr.mono (by decide)) rfl passN (pa_cons (pv 3) pa_nil)))))) pss_nil) (pss_one (ps_ret (L2.pe_and (pe_cl (E := En) c_is_word (hr.mono (by decide)) rfl passN (pa_cons (pv 1) (pa_cons (pe_glob rfl g_SURE r_SURE) pa_nil))) (L2.pe_and (pe_cl (E := En) c_is_tuple_of_words (hr.mono (by decide)) rfl passN (pa_cons (pv 2) pa_nil)) (pe_one (pe_cl (E := En) c_is_tuple_of_words (hr.mono (by decide)) rfl passN (pa_cons (pv 3) pa_nil)))))))))))), ?_⟩))
  · obtain ⟨_, _, _, _, rfl, _⟩ := h
    rfl
  · obtain ⟨p, n, v, d, rfl, hv, k⟩ := h
    refine ⟨_, rfl, p, n, v, d, 1, rfl, hv, fun H1 e1 => ⟨_, rfl, ?_⟩⟩
    have hv1 := hv.ex e1
    have len : ∀ {ds : List PyData} {m : Nat}, lenD (.tuple ds) (m : Nat) = decide (ds.length = m) := fun {ds m} => by
      show decide (V.int ds.length = V.int m) = _
      rw [decide_eq_decide]
      exact ⟨fun z => by injection z with z; omega, fun z => by rw [z]⟩
    have none_ : ∀ {d : PyData}, (∀ ds, d ≠ .tuple ds) → lenD d 1 = false ∧ lenD d 3 = false ∧ formD d = false := fun {d} h => by
      cases d <;> first | exact ⟨rfl, rfl, rfl⟩ | exact absurd rfl (h _)
    rcases hv1.isT with ⟨m', a, xs, ds, _, rfl, np, rfl, ha, l, pr, _⟩ | ⟨_, nt⟩
    rotate_left
    · obtain ⟨z1, z3, zf⟩ := none_ nt
      rw [z1]
      refine iteF ⟨_, rfl, p, n, v, d, 3, rfl, hv1, fun H2 e2 => ⟨_, rfl, ?_⟩⟩
      rw [z3]
      have q := k H2 (e1.trans e2)
      rw [zf] at q
      exact iteT q
    match ds, pr with
    | [x], .cons (a := u) gx .nil =>
      rw [show lenD (.tuple [x]) 1 = true from len]
      refine iteT ⟨_, rfl, .inr (.inl ⟨a, [u], 0, u, rfl, rfl, st_of ha, rfl, ?_⟩)⟩
      exact ⟨p, m', u, x, tKept, rfl, gx, fun H2 e2 => k H2 (e1.trans e2)⟩
    | [x, y, z], .cons (a := ux) gx (.cons (a := uy) gy (.cons (a := uz) gz .nil)) =>
      rw [show lenD (.tuple [x, y, z]) 1 = false from len]
      refine iteF ⟨_, rfl, p, n, .ref a, _, 3, rfl, hv1, fun H2 e2 => ⟨_, rfl, ?_⟩⟩
      rw [show lenD (.tuple [x, y, z]) 3 = true from len]
      refine iteF ?_
      refine ⟨_, rfl, a, _, rfl, st_of (e2 _ _ ha), rfl, _, _, rfl, _, _, rfl, _, _, rfl, rfl, ?_⟩
      refine ⟨_, rfl, p, m', ux, x, tTold, rfl, gx.ex e2, fun H3 e3 => ⟨_, rfl, ?_⟩⟩
      have hx3 := gx.ex (e2.trans e3)
      have hy3 := gy.ex (e2.trans e3)
      have hz3 := gz.ex (e2.trans e3)
      have E3 := e1.trans (e2.trans e3)
      have ef : formD (.tuple [x, y, z]) = if strD tTold x || strD tWarned x then nmD y && cntD z else if strD tHidden x then nmD y && flagD z else strD tSure x && (wdsD y && wdsD z) := rfl
      have cnt : ∀ {H4 : Hp}, Ex H3 H4 → formD (.tuple [x, y, z]) = (nmD y && cntD z) → ∀ (q : ∀ H5, Ex H4 H5 → Q (.bl (nmD y && cntD z)) H5), ∃ v_1, [some (V.ref a), some ux, some uy, some uz][2]? = some (some v_1) ∧ True := fun _ _ _ => ⟨_, rfl, trivial⟩
      clear cnt
      cases h1 : strD tTold x with
      | true =>
        rw [h1] at ef
        refine iteT ⟨_, rfl, uy, rfl, hy3.pl, hy3.nmz, fun H4 e4 => ⟨_, rfl, ?_⟩⟩
        rw [hy3.nm]
        cases hn : nmD y with
        | false =>
          have q := k H4 (E3.trans e4)
          rw [ef, hn] at q
          exact q
        | true =>
          refine ⟨_, rfl, uz, rfl, (hz3.ex e4).pl, fun H5 e5 => ?_⟩
          have q := k H5 (E3.trans (e4.trans e5))
          rw [ef, hn] at q
          rw [hz3.cnt]
          exact q
      | false =>
        refine iteF ⟨_, rfl, p, m', ux, x, tWarned, rfl, hx3, fun H4 e4 => ⟨_, rfl, ?_⟩⟩
        have hx4 := hx3.ex e4
        have hy4 := hy3.ex e4
        have hz4 := hz3.ex e4
        have E4 := E3.trans e4
        cases h2 : strD tWarned x with
        | true =>
          rw [h1, h2] at ef
          refine iteT ⟨_, rfl, uy, rfl, hy4.pl, hy4.nmz, fun H5 e5 => ⟨_, rfl, ?_⟩⟩
          rw [hy4.nm]
          cases hn : nmD y with
          | false =>
            have q := k H5 (E4.trans e5)
            rw [ef, hn] at q
            exact q
          | true =>
            refine ⟨_, rfl, uz, rfl, (hz4.ex e5).pl, fun H6 e6 => ?_⟩
            have q := k H6 (E4.trans (e5.trans e6))
            rw [ef, hn] at q
            rw [hz4.cnt]
            exact q
        | false =>
          refine iteF ⟨_, rfl, p, m', ux, x, tHidden, rfl, hx4, fun H5 e5 => ⟨_, rfl, ?_⟩⟩
          have hx5 := hx4.ex e5
          have hy5 := hy4.ex e5
          have hz5 := hz4.ex e5
          have E5 := E4.trans e5
          cases h3 : strD tHidden x with
          | true =>
            rw [h1, h2, h3] at ef
            refine iteT ⟨_, rfl, uy, rfl, hy5.pl, hy5.nmz, fun H6 e6 => ⟨_, rfl, ?_⟩⟩
            rw [hy5.nm]
            cases hn : nmD y with
            | false =>
              have q := k H6 (E5.trans e6)
              rw [ef, hn] at q
              exact q
            | true =>
              refine ⟨_, rfl, uz, rfl, (hz5.ex e6).pl, fun H7 e7 => ?_⟩
              have q := k H7 (E5.trans (e6.trans e7))
              rw [ef, hn] at q
              rw [hz5.isB]
              exact q
          | false =>
            rw [h1, h2, h3] at ef
            refine iteF ⟨_, rfl, p, m', ux, x, tSure, rfl, hx5, fun H6 e6 => ⟨_, rfl, ?_⟩⟩
            cases h4 : strD tSure x with
            | false =>
              have q := k H6 (E5.trans e6)
              rw [ef, h4] at q
              exact q
            | true =>
              refine ⟨_, rfl, p, m', uy, y, rfl, hy5.ex e6, fun H7 e7 => ⟨_, rfl, ?_⟩⟩
              cases h5 : wdsD y with
              | false =>
                have q := k H7 (E5.trans (e6.trans e7))
                rw [ef, h4, h5] at q
                exact q
              | true =>
                refine ⟨_, rfl, p, m', uz, z, rfl, hz5.ex (e6.trans e7), fun H8 e8 => ?_⟩
                have q := k H8 (E5.trans (e6.trans (e7.trans e8)))
                rw [ef, h4, h5] at q
                exact q
    | [], .nil =>
      rw [show lenD (.tuple []) 1 = false from len]
      refine iteF ⟨_, rfl, p, n, .ref a, _, 3, rfl, hv1, fun H2 e2 => ⟨_, rfl, ?_⟩⟩
      rw [show lenD (.tuple []) 3 = false from len]
      exact iteT (k H2 (e1.trans e2))
    | [x, y], _ =>
      rw [show lenD (.tuple [x, y]) 1 = false from len]
      refine iteF ⟨_, rfl, p, n, .ref a, _, 3, rfl, hv1, fun H2 e2 => ⟨_, rfl, ?_⟩⟩
      rw [show lenD (.tuple [x, y]) 3 = false from len]
      exact iteT (k H2 (e1.trans e2))
    | x :: y :: z :: u :: r, _ =>
      rw [show lenD (.tuple (x :: y :: z :: u :: r)) 1 = false from len.trans (decide_eq_false (by simp))]
      refine iteF ⟨_, rfl, p, n, .ref a, _, 3, rfl, hv1, fun H2 e2 => ⟨_, rfl, ?_⟩⟩
      rw [show lenD (.tuple (x :: y :: z :: u :: r)) 3 = false from len.trans (decide_eq_false (by simp))]
      exact iteT (k H2 (e1.trans e2))
end
end WK

set_option Elab.async false
set_option linter.all false
set_option maxRecDepth 100000
set_option maxHeartbeats 4000000
namespace WK
open PySem PySem.Spec PyProof.Rows L2 WW Evl TL
/-- a digit of a text -/
def dgV : V → Bool
  | .str z => z.cps.toList.all fun c => dgB c
  | _ => true
theorem strE {x y : Str} : decide (V.str x = V.str y) = decide (x = y) := by
  rw [decide_eq_decide]
  exact ⟨fun q => V.str.inj q, fun q => by rw [q]⟩
theorem intE {i j : Int} : decide (V.int i = V.int j) = decide (i = j) := by
  rw [decide_eq_decide]
  exact ⟨fun q => by injection q, fun q => by rw [q]⟩
theorem np_new {p t : Addr} {H H' : Hp} (hp : H p ≠ none) (e : Ex H H') (ht : H' t = none) : t ≠ p := fun z => by
  subst z
  cases h : H t with
  | none => exact hp h
  | some o => rw [e _ _ h] at ht; cases ht
theorem dig_all {x : Str} (h : dig4 x = true) : NumText.AllDigits x.cps.toList ∧ x.cps.toList ≠ [] ∧ x.length ≤ 4 := by
  unfold dig4 at h
  simp only [Bool.and_eq_true, decide_eq_true_eq, List.all_eq_true] at h
  obtain ⟨h1, h4, hd⟩ := h
  have el : x.length = x.cps.toList.length := len_tl x
  refine ⟨fun c hc => ?_, fun z => ?_, by omega⟩
  · have := hd c hc
    unfold dgB at this
    simpa using this
  · rw [z] at el
    simp at el
    omega
theorem dig_int {x : Str} (h : dig4 x = true) : intText? x = some ((NumText.digitsVal x.cps.toList : Nat) : Int) := by
  obtain ⟨h1, h2, h3⟩ := dig_all h
  exact PySem.intText_digits h1 h2 (by omega)
section
variable {P : Program} {w : World} {K : PySem.W.Frag} {mg : Str → Option Value} {base : Heap} {f : Addr} {fd : FuncData}
abbrev s_is_numeral : Stmt := top 24
theorem sc_is_numeral : FnScope ["text", "most", "sign"] ["text", "most"] (defScope s_is_numeral) := ⟨rfl, rfl, rfl, by decide +kernel, rfl, by decide +kernel, by decide +kernel⟩
def spIsNum : Sp := fun vs H Q _ => ∃ z, vs = [.str z, .int 4] ∧ z.length ≤ 1000 ∧ ∀ H', Ex H H' → Q (.bl (numlB z)) H'
theorem ok_is_num (G : Gz mg) (D : Df K mg "is_numeral" s_is_numeral f fd ["text", "most"]) : Callee P w K mg base CXn 1 "is_numeral" 2 spIsNum := by
  refine D.callee (D.fn.ok sc_is_numeral (fun vs H Q E h => ?_) (fun cdv A outer s H vs Q E hr h => ⟨_, PSs.nox (pss_cons (ps_if (PW.pt (pw_or (pt_not (pt_chain op_le op_le pe_int (pe_callB (lenK (K := K) rfl) rfl G.g_len PySem.boot_len (pa_cons (pv 0) pa_nil)) (pv 1))) (pw_or1 (pt_not (pt_val (pe_callB (cr_all rfl) rfl G.g_all (by rfl) (pa_cons (pe_lc (own := [("sign", 2)]) rfl sc_is_numeral.nd (pi_str (pv 0)) (BlkOk.mk (N := ["text", "most", "sign"]) (sc := defScope s_is_numeral) rfl (by decide +kernel) (by decide +kernel) (by decide +kernel) (by decide +kernel)) (fun _ _ _ _ _ => (pg_name (i := 2) sc_is_numeral.nd rfl (Or.inl rfl))) (fun _ _ _ _ _ => pts_nil) (fun _ _ _ _ _ => (pe_chain op_le_str op_le_str pe_str (pv 2) pe_str))) pa_nil))))))) (pss_one (ps_ret pe_bl)) pss_nil) (pss_one (ps_ret (L2.pe_or (pe_cmpR op_eq (pv 0) pe_str (nomark _)) (pe_one (pe_cmpR op_ne (pe_ix (ixK (K := K) rfl) (pv 0) pe_int (fun _ _ => rfl)) pe_str (nomark _))))))), ?_⟩))
  · obtain ⟨_, rfl, _⟩ := h
    rfl
  · obtain ⟨z, rfl, hz, k⟩ := h
    have q0 := k H (Ex.refl _)
    have hl : LenV K (.str z) H z.length := ⟨Nat.le_trans hz (by decide), rfl⟩
    have en : numlB z = (dig4 z && (decide (z = "0") || !decide (z.cps.toList[0]? = some 48))) := rfl
    have ed : dig4 z = (decide (1 ≤ (z.length : Int)) && (decide ((z.length : Int) ≤ 4) && z.cps.toList.all fun c => dgB c)) := rfl
    refine ⟨_, rfl, .str z, z.length, rfl, hl, 1, (z.length : Int), rfl, rfl, decide ((1 : Int) ≤ (z.length : Int)), rfl, ?_⟩
    cases h1 : decide ((1 : Int) ≤ (z.length : Int)) with
    | false =>
      rw [en, ed, h1] at q0
      exact ⟨false, rfl, iteT q0⟩
    | true =>
      refine ⟨_, rfl, (z.length : Int), 4, rfl, rfl, decide ((z.length : Int) ≤ 4), rfl, ?_⟩
      cases h2 : decide ((z.length : Int) ≤ 4) with
      | false =>
        rw [en, ed, h1, h2] at q0
        exact iteT q0
      | true =>
        refine iteF ?_
        refine ⟨.str z, rfl, z, rfl, fun D hD => ?_⟩
        refine lc_ev (f := fun _ => true) (v := fun x => .bl (dgV x)) st_s (by rw [chs_len]; omega) (fun x => rfl) hD (fun x _ H1 e Q q => q H1 (Ex.refl _)) (fun x hx _ H1 e Q q => ?_) (fun H' e hd => ?_)
        · obtain ⟨c, hm, rfl⟩ : ∃ c, c ∈ z.cps.toList ∧ V.str ⟨#[c]⟩ = x := by unfold chs at hx; simpa using hx
          have q1 := q H1 (Ex.refl _)
          have ec : dgV (.str ⟨#[c]⟩) = dgB c := by show ([c].all fun c => dgB c) = _; simp
          rw [ec] at q1
          refine ⟨_, rfl, (Str.ofString "0"), ⟨#[c]⟩, rfl, rfl, _, rfl, ?_⟩
          have e1 : (!decide ((⟨#[c]⟩ : Str).cps.toList < (Str.ofString "0").cps.toList)) = decide (48 ≤ c) := by
            have : (Str.ofString "0").cps.toList = [48] := by decide +kernel
            rw [this]
            rw [Bool.eq_iff_iff]
            simp [List.cons_lt_cons_iff]
          have e2 : (!decide ((Str.ofString "9").cps.toList < (⟨#[c]⟩ : Str).cps.toList)) = decide (c ≤ 57) := by
            have : (Str.ofString "9").cps.toList = [57] := by decide +kernel
            rw [this]
            rw [Bool.eq_iff_iff]
            simp [List.cons_lt_cons_iff]
          rw [e1]
          cases h3 : decide (48 ≤ c) with
          | false =>
            have e4 : dgB c = false := by unfold dgB; rw [h3]; rfl
            rw [e4] at q1
            exact q1
          | true =>
            have e4 : dgB c = decide (c ≤ 57) := by unfold dgB; rw [h3]; rfl
            rw [e4] at q1
            refine ⟨⟨#[c]⟩, (Str.ofString "9"), rfl, rfl, ?_⟩
            rw [e2]
            exact q1
        · refine ⟨D, (chs z).map dgV, rfl, sq_of ?_, ?_⟩
          · rw [hd, List.filter_eq_self.mpr (fun _ _ => rfl), List.map_map]
            rfl
          · have e3 : ((chs z).map dgV).all id = z.cps.toList.all fun c => dgB c := by
              unfold chs
              rw [List.map_map, List.all_map]
              congr 1
              funext c
              show ([c].all fun c => dgB c) = _
              simp
            rw [e3]
            refine ⟨_, rfl, ?_⟩
            have q1 := k H' e
            rw [en, ed, h1, h2] at q1
            cases h3 : z.cps.toList.all fun c => dgB c with
            | false =>
              rw [h3] at q1
              exact iteT q1
            | true =>
              rw [h3] at q1
              refine iteF ?_
              refine ⟨_, rfl, rfl, _, rfl, ?_⟩
              rw [strE]
              cases h4 : decide (z = "0") with
              | true =>
                rw [h4] at q1
                exact q1
              | false =>
                rw [h4] at q1
                have hpos : 0 < z.cps.toList.length := by
                  have := of_decide_eq_true h1
                  have el : z.length = z.cps.toList.length := len_tl z
                  omega
                refine ⟨_, rfl, .inr (.inr ⟨z, 0, z.cps.toList[0], rfl, rfl, Nat.le_trans hz (by decide), atI_nat (List.getElem?_eq_getElem hpos), rfl, ?_⟩)⟩
                have e5 : decide (V.str ⟨#[z.cps.toList[0]]⟩ = V.str (Str.ofString "0")) = decide (z.cps.toList[0]? = some 48) := by
                  rw [strE, decide_eq_decide, List.getElem?_eq_getElem hpos]
                  constructor
                  · intro e
                    have := congrArg (fun s : Str => s.cps.toList) e
                    have e6 : (Str.ofString "0").cps.toList = [48] := by decide +kernel
                    rw [e6] at this
                    have : [z.cps.toList[0]] = [48] := this
                    injection this with this
                    rw [this]
                  · intro e
                    have e := Option.some.inj e
                    rw [e]
                    decide +kernel
                rw [e5]
                exact q1
abbrev s_number_of : Stmt := top 37
theorem sc_number_of : FnScope ["text"] ["text"] (defScope s_number_of) := ⟨rfl, rfl, rfl, by decide +kernel, rfl, by decide +kernel, by decide +kernel⟩
def spNumOf : Sp := fun vs H Q _ => ∃ z, vs = [.str z] ∧ z.length ≤ 1000 ∧ ∀ v H', Ex H H' → LfD v (numP z) → Q v H'
theorem ok_num_of (G : Gz mg) (gc : ∃ t, mg "MOST_DIGITS" = some (.int 4 t)) (D : Df K mg "number_of" s_number_of f fd ["text"]) (c_is_numeral : Callee P w K mg base CXn 1 "is_numeral" 2 spIsNum) : Callee P w K mg base CXn 2 "number_of" 1 spNumOf := by
  obtain ⟨tc, g_MOST_DIGITS⟩ := gc
  have r_MOST_DIGITS : RelV (.int 4) (.int 4 tc) := ⟨_, rfl⟩
  refine D.callee (D.fn.ok sc_number_of (fun vs H Q E h => ?_) (fun cdv A outer s H vs Q E hr h => ⟨_, PSs.nox (pss_one (ps_ret (pe_ifExp (pt_val (pe_cl (E := En) c_is_numeral (hr.mono (by decide)) rfl passN (pa_cons (pv 0) (pa_cons (pe_glob rfl g_MOST_DIGITS r_MOST_DIGITS) pa_nil)))) (pe_callTy call_int_str rfl G.g_int (by rfl) (pa_cons (pv 0) pa_nil)) pe_non))), ?_⟩))
  · obtain ⟨_, rfl, _⟩ := h
    rfl
  · obtain ⟨z, rfl, hz, k⟩ := h
    refine ⟨_, rfl, z, rfl, hz, fun H1 e1 => ⟨_, rfl, ?_⟩⟩
    cases hn : numlB z with
    | true =>
      have hd : dig4 z = true := by
        have hn2 : (dig4 z && _) = true := hn
        rw [Bool.and_eq_true] at hn2
        exact hn2.1
      refine iteT ⟨_, rfl, z, _, rfl, dig_int hd, by have := (dig_all hd).2.2; omega, k _ H1 e1 ?_⟩
      unfold numP
      rw [if_pos hn]
      rfl
    | false =>
      refine iteF (k _ H1 e1 ?_)
      unfold numP
      rw [hn]
      rfl
abbrev s_row_of : Stmt := top 36
theorem sc_row_of : FnScope ["text"] ["text"] (defScope s_row_of) := ⟨rfl, rfl, rfl, by decide +kernel, rfl, by decide +kernel, by decide +kernel⟩
def spRowOf : Sp := fun vs H Q _ => ∃ p z, vs = [.str z] ∧ z.length ≤ 1000 ∧ H p ≠ none ∧ ∀ v H', Ex H H' → At p 1 H' v (rowD z) → Q v H'
theorem prd_strs {p : Addr} {H : Hp} : ∀ {zs : List Str}, (∀ z ∈ zs, z.length ≤ 1000) → Paired (At p 0 H) (zs.map V.str) (zs.map PyData.str)
  | [], _ => .nil
  | z :: zs, h => .cons (At.leaf (LfD.st (h z List.mem_cons_self))) (prd_strs fun y hy => h y (List.mem_cons_of_mem _ hy))
theorem split_at {p t : Addr} {H : Hp} {x y : Str} (np : t ≠ p) (hx : x.length ≤ 1000) (h : H t = some (.tup ((Txt.split x y).map V.str))) : At p 1 H (.ref t) (.tuple ((Txt.split x y).map .str)) :=
  At.tup np h (by rw [List.length_map]; have := split_le x y; omega) (prd_strs fun z hz => Nat.le_trans (split_part hz) hx)
theorem cm_len : ((cm1 : Str).length == 0) = false := by decide +kernel
theorem sp_len : ((sp1 : Str).length == 0) = false := by decide +kernel
theorem ok_row_of (G : Gz mg) (WD : Wd mg) (D : Df K mg "row_of" s_row_of f fd ["text"]) : Callee P w K mg base CXn 1 "row_of" 1 spRowOf := by
  obtain ⟨t_NO_WORDS, g_NO_WORDS⟩ := WD.NO_WORDS
  have r_NO_WORDS : RelV (.str mn1) (.str mn1 t_NO_WORDS) := ⟨_, rfl⟩
  refine D.callee (D.fn.ok sc_row_of (fun vs H Q E h => ?_) (fun cdv A outer s H vs Q E hr h => ⟨_, PSs.nox (pss_one (ps_ret (pe_ifExp (pt_cmpR op_eq (pv 0) (pe_glob rfl g_NO_WORDS r_NO_WORDS) (nomark _)) (pe_tup pa_nil) (pe_callTy (tupOfK (K := K) rfl) rfl G.g_tuple (by rfl) (pa_cons (pe_split (pv 0) pe_str) pa_nil))))), ?_⟩))
  · obtain ⟨_, _, rfl, _⟩ := h
    rfl
  · obtain ⟨p, z, rfl, hz, hp, k⟩ := h
    have er : rowD z = if z = mn1 then .tuple [] else .tuple ((Txt.split z cm1).map .str) := rfl
    refine ⟨_, rfl, rfl, _, rfl, ?_⟩
    rw [strE]
    refine ite2 (fun e => ?_) (fun e => ?_)
    · refine ⟨Nat.zero_le _, fun t ht => k _ _ (Ex.new ht) ?_⟩
      rw [er, if_pos (of_decide_eq_true e)]
      exact At.tup (np_new hp (Ex.refl _) ht) upd_same (Nat.zero_le _) .nil
    · refine ⟨_, rfl, ⟨_, rfl⟩, z, cm1, rfl, rfl, cm_len, Nat.le_trans (by omega : _ ≤ 1002) (by decide), fun l hl => ?_⟩
      refine ⟨l, _, rfl, .inl ⟨sq_of upd_same, fun t ht => k _ _ ((Ex.new hl).trans (Ex.new ht)) ?_⟩⟩
      rw [er, if_neg (fun q => e (decide_eq_true q))]
      exact split_at (np_new hp (Ex.new hl) ht) hz upd_same
end
end WK

set_option Elab.async false
set_option linter.all false
set_option maxRecDepth 100000
set_option maxHeartbeats 4000000
namespace WK
open PySem PySem.Spec PyProof.Rows L2 WW Evl TL
section
variable {P : Program} {w : World} {K : PySem.W.Frag} {mg : Str → Option Value} {base : Heap} {f : Addr} {fd : FuncData}
abbrev s_wish_of : Stmt := top 34
theorem sc_wish_of : FnScope ["words", "form", "many"] ["words"] (defScope s_wish_of) := ⟨rfl, rfl, rfl, by decide +kernel, rfl, by decide +kernel, by decide +kernel⟩
def spWishOf : Sp := fun vs H Q _ => ∃ p a ps, vs = [.ref a] ∧ H a = some (.lst (ps.map V.str)) ∧ ps ≠ [] ∧ ps.length ≤ 2000 ∧ (∀ x ∈ ps, x.length ≤ 1000) ∧ H p ≠ none ∧ ∀ v H', Ex H H' → At p 2 H' v (raw numP ps) → Q v H'
theorem ok_wish_of (G : Gz mg) (WD : Wd mg) (D : Df K mg "wish_of" s_wish_of f fd ["words"]) (c_number_of : Callee P w K mg base CXn 2 "number_of" 1 spNumOf) (c_row_of : Callee P w K mg base CXn 1 "row_of" 1 spRowOf) : Callee P w K mg base CXn 3 "wish_of" 1 spWishOf := by
  obtain ⟨t_KEPT, g_KEPT⟩ := WD.KEPT
  have r_KEPT : RelV (.str tKept) (.str tKept t_KEPT) := ⟨_, rfl⟩
  obtain ⟨t_HIDDEN, g_HIDDEN⟩ := WD.HIDDEN
  have r_HIDDEN : RelV (.str tHidden) (.str tHidden t_HIDDEN) := ⟨_, rfl⟩
  obtain ⟨t_JOINTLY, g_JOINTLY⟩ := WD.JOINTLY
  have r_JOINTLY : RelV (.str tJointly) (.str tJointly t_JOINTLY) := ⟨_, rfl⟩
  obtain ⟨t_TOLD, g_TOLD⟩ := WD.TOLD
  have r_TOLD : RelV (.str tTold) (.str tTold t_TOLD) := ⟨_, rfl⟩
  obtain ⟨t_WITHIN, g_WITHIN⟩ := WD.WITHIN
  have r_WITHIN : RelV (.str tWithin) (.str tWithin t_WITHIN) := ⟨_, rfl⟩
  obtain ⟨t_WARNED, g_WARNED⟩ := WD.WARNED
  have r_WARNED : RelV (.str tWarned) (.str tWarned t_WARNED) := ⟨_, rfl⟩
  obtain ⟨t_AHEAD, g_AHEAD⟩ := WD.AHEAD
  have r_AHEAD : RelV (.str tAhead) (.str tAhead t_AHEAD) := ⟨_, rfl⟩
  obtain ⟨t_SURE, g_SURE⟩ := WD.SURE
  have r_SURE : RelV (.str tSure) (.str tSure t_SURE) := ⟨_, rfl⟩
  obtain ⟨t_BY, g_BY⟩ := WD.BY
  have r_BY : RelV (.str tBy) (.str tBy t_BY) := ⟨_, rfl⟩
  refine D.callee (D.fn.ok sc_wish_of (fun vs H Q E h => ?_) (fun cdv A outer s H vs Q E hr h => ⟨_, PSs.nox (pss_cons (ps_par (i := 1) (j := 2) rfl sc_wish_of.nd rfl rfl (by decide) rfl rfl (pa_cons (pe_ix (ixK (K := K) rfl) (pv 0) pe_int (fun _ _ => rfl)) (pa_cons (pe_callB (lenK (K := K) rfl) rfl G.g_len PySem.boot_len (pa_cons (pv 0) pa_nil)) pa_nil)) rfl) (pss_cut (ps_if (PW.pt (pw_and (pt_cmpR op_eq (pv 1) (pe_glob rfl g_KEPT r_KEPT) (nomark _)) (pw_and1 (pt_cmpR op_eq (pv 2) pe_int (nomark _))))) (pss_one (ps_ret (pe_tup (pa_cons (pe_glob rfl g_KEPT r_KEPT) pa_nil)))) pss_nil) (pss_cut (ps_if (PW.pt (pw_and (pt_cmpR op_eq (pv 1) (pe_glob rfl g_HIDDEN r_HIDDEN) (nomark _)) (pw_and1 (PW.pt (pw_or (pt_cmpR op_eq (pv 2) pe_int (nomark _)) (pw_or1 (PW.pt (pw_and (pt_cmpR op_eq (pv 2) pe_int (nomark _)) (pw_and1 (pt_cmpR op_eq (pe_ix (ixK (K := K) rfl) (pv 0) pe_int (fun _ _ => rfl)) (pe_glob rfl g_JOINTLY r_JOINTLY) (nomark _))))))))))) (pss_one (ps_ret (pe_tup (pa_cons (pe_glob rfl g_HIDDEN r_HIDDEN) (pa_cons (pe_ix (ixK (K := K) rfl) (pv 0) pe_int (fun _ _ => rfl)) (pa_cons (pe_cmpR op_eq (pv 2) pe_int (nomark _)) pa_nil)))))) pss_nil) (pss_cons (ps_if (pt_cmpR op_ne (pv 2) pe_int (nomark _)) (pss_one (ps_ret pe_non)) pss_nil) (pss_cut (ps_if (PW.pt (pw_or (PW.pt (pw_and (pt_cmpR op_eq (pv 1) (pe_glob rfl g_TOLD r_TOLD) (nomark _)) (pw_and1 (pt_cmpR op_eq (pe_ix (ixK (K := K) rfl) (pv 0) pe_int (fun _ _ => rfl)) (pe_glob rfl g_WITHIN r_WITHIN) (nomark _))))) (pw_or1 (PW.pt (pw_and (pt_cmpR op_eq (pv 1) (pe_glob rfl g_WARNED r_WARNED) (nomark _)) (pw_and1 (pt_cmpR op_eq (pe_ix (ixK (K := K) rfl) (pv 0) pe_int (fun _ _ => rfl)) (pe_glob rfl g_AHEAD r_AHEAD) (nomark _)))))))) (pss_one (ps_ret (pe_tup (pa_cons (pv 1) (pa_cons (pe_ix (ixK (K := K) rfl) (pv 0) pe_int (fun _ _ => rfl)) (pa_cons (pe_cl (E := En) c_number_of (hr.mono (by decide)) rfl passN (pa_cons (pe_ix (ixK (K := K) rfl) (pv 0) pe_int (fun _ _ => rfl)) pa_nil)) pa_nil)))))) pss_nil) (pss_cut (ps_if (PW.pt (pw_and (pt_cmpR op_eq (pv 1) (pe_glob rfl g_SURE r_SURE) (nomark _)) (pw_and1 (pt_cmpR op_eq (pe_ix (ixK (K := K) rfl) (pv 0) pe_int (fun _ _ => rfl)) (pe_glob rfl g_BY r_BY) (nomark _))))) (pss_one (ps_ret (pe_tup (pa_cons (pe_glob rfl g_SURE r_SURE) (pa_cons (pe_cl (E := En) c_row_of (hr.mono (by decide)) rfl passN (pa_cons (pe_ix (ixK (K := K) rfl) (pv 0) pe_int (fun _ _ => rfl)) pa_nil)) (pa_cons (pe_cl (E := En) c_row_of (hr.mono (by decide)) rfl passN (pa_cons (pe_ix (ixK (K := K) rfl) (pv 0) pe_int (fun _ _ => rfl)) pa_nil)) pa_nil)))))) pss_nil) (pss_one (ps_ret pe_non)))))))), ?_⟩))
  · obtain ⟨_, _, _, rfl, _⟩ := h
    rfl
  · obtain ⟨p, a, ps, rfl, ha, hne, hl, hz, hp, k⟩ := h
    obtain ⟨x, r, rfl⟩ : ∃ x r, ps = x :: r := by cases ps with | nil => exact absurd rfl hne | cons x r => exact ⟨x, r, rfl⟩
    have it : ∀ {i : Nat} {y : Str}, (x :: r)[i]? = some y → atI ((x :: r).map V.str) ((i : Nat) : Int) = some (.str y) := fun {i y} h => atI_nat (by rw [List.getElem?_map, h]; rfl)
    have kn : ∀ {i : Nat} {y : Str}, (x :: r)[i]? = some y → y.length ≤ 1000 := fun h => hz _ (List.mem_of_getElem? h)
    have hlen : (((x :: r).map V.str).length : Int) = ((x :: r).length : Int) := by rw [List.length_map]
    refine ⟨_, rfl, .inl ⟨a, _, 0, .str x, rfl, rfl, sq_of ha, it (i := 0) rfl, _, rfl, .ref a, (x :: r).length, rfl, .inl ⟨_, sq_of ha, by rw [List.length_map]⟩, _, _, rfl, ?_⟩⟩
    have sN : k = k := rfl
    -- kept
    refine ⟨fun σ' H' => σ' = [some (.ref a), some (.str x), some (.int ((x :: r).length : Nat))] ∧ H' = H ∧ ¬ (x = tKept ∧ r = []), ?_, ?_⟩
    · refine ⟨_, rfl, rfl, _, rfl, ?_⟩
      rw [strE]
      refine ite2 (fun e1 => ?_) (fun e1 => ⟨rfl, rfl, fun z => e1 (decide_eq_true z.1)⟩)
      refine ⟨_, rfl, rfl, _, rfl, ?_⟩
      rw [intE]
      refine ite2 (fun e2 => ?_) (fun e2 => ⟨rfl, rfl, fun z => e2 (by rw [z.2]; rfl)⟩)
      have er : r = [] := by
        have := of_decide_eq_true e2
        rw [List.length_cons] at this
        exact List.eq_nil_of_length_eq_zero (by omega)
      subst er
      refine ⟨(by show 1 ≤ sizeLine; decide), fun t ht => k _ _ (Ex.new ht) ?_⟩
      rw [raw1, if_pos (of_decide_eq_true e1)]
      exact At.up (At.tup (np_new hp (Ex.refl _) ht) upd_same (by show 1 ≤ 2000; decide) (.cons (At.leaf (LfD.str (by decide +kernel))) .nil))
    rintro σ' H' ⟨rfl, rfl, n1⟩
    -- hidden
    refine ⟨fun σ' H2 => σ' = [some (.ref a), some (.str x), some (.int ((x :: r).length : Nat))] ∧ H2 = H' ∧ ¬ (x = tHidden ∧ (r.length = 1 ∨ ∃ y z, r = [y, z] ∧ z = tJointly)), ?_, ?_⟩
    · refine ⟨_, rfl, rfl, _, rfl, ?_⟩
      rw [strE]
      refine ite2 (fun e1 => ?_) (fun e1 => ⟨rfl, rfl, fun z => e1 (decide_eq_true z.1)⟩)
      refine ⟨_, rfl, rfl, _, rfl, ?_⟩
      rw [intE]
      refine ite2 (fun e2 => ?_) (fun e2 => ?_)
      · have er : ∃ y, r = [y] := by
          have := of_decide_eq_true e2
          rw [List.length_cons] at this
          match r, (show r.length = 1 by omega) with
          | [y], _ => exact ⟨y, rfl⟩
        obtain ⟨y, rfl⟩ := er
        refine ⟨_, rfl, .inl ⟨a, _, 1, .str y, rfl, rfl, sq_of ha, rfl, _, rfl, rfl, ?_⟩⟩
        refine ⟨(by show 3 ≤ sizeLine; decide), fun t ht => k _ _ (Ex.new ht) ?_⟩
        rw [raw2, if_pos (of_decide_eq_true e1)]
        exact At.up (At.tup (np_new hp (Ex.refl _) ht) upd_same (by show 3 ≤ 2000; decide) (.cons (At.leaf (LfD.str (by decide +kernel))) (.cons (At.leaf (LfD.st (kn (i := 1) rfl))) (.cons (At.leaf rfl) .nil))))
      · refine ⟨_, rfl, rfl, _, rfl, ?_⟩
        rw [intE]
        refine ite2 (fun e3 => ?_) (fun e3 => ⟨rfl, rfl, fun z => ?_⟩)
        · have er : ∃ y z, r = [y, z] := by
            have := of_decide_eq_true e3
            rw [List.length_cons] at this
            match r, (show r.length = 2 by omega) with
            | [y, z], _ => exact ⟨y, z, rfl⟩
          obtain ⟨y, z, rfl⟩ := er
          refine ⟨_, rfl, .inl ⟨a, _, 2, .str z, rfl, rfl, sq_of ha, rfl, rfl, _, rfl, ?_⟩⟩
          rw [strE]
          refine ite2 (fun e4 => ?_) (fun e4 => ⟨rfl, rfl, ?_⟩)
          · refine ⟨_, rfl, .inl ⟨a, _, 1, .str y, rfl, rfl, sq_of ha, rfl, _, rfl, rfl, ?_⟩⟩
            refine ⟨(by show 3 ≤ sizeLine; decide), fun t ht => k _ _ (Ex.new ht) ?_⟩
            rw [raw3, if_pos ⟨of_decide_eq_true e1, of_decide_eq_true e4⟩]
            exact At.up (At.tup (np_new hp (Ex.refl _) ht) upd_same (by show 3 ≤ 2000; decide) (.cons (At.leaf (LfD.str (by decide +kernel))) (.cons (At.leaf (LfD.st (kn (i := 1) rfl))) (.cons (At.leaf rfl) .nil))))
          · rintro ⟨_, z1 | ⟨y', z', z1, z2⟩⟩
            · exact absurd z1 (by simp)
            · cases z1
              exact e4 (decide_eq_true z2)
        · rcases z with ⟨_, z1 | ⟨y', z', rfl, z2⟩⟩
          · exact e2 (decide_eq_true (by rw [List.length_cons, z1]; rfl))
          · exact e3 (decide_eq_true rfl)
    rintro σ2 H2 ⟨rfl, rfl, n2⟩
    have no_num : (x :: r).length ≠ 4 → raw numP (x :: r) = .none := fun n4 => by
      match r with
      | [] => rw [raw1, if_neg (fun z => n1 ⟨z, rfl⟩)]
      | [y] => rw [raw2, if_neg (fun z => n2 ⟨z, .inl rfl⟩)]
      | [y, z] => rw [raw3, if_neg (fun q => n2 ⟨q.1, .inr ⟨y, z, rfl, q.2⟩⟩)]
      | [y, z, u] => exact absurd rfl n4
      | _ :: _ :: _ :: _ :: _ => rfl
    refine ⟨_, rfl, rfl, _, rfl, ?_⟩
    rw [intE]
    refine ite2 (fun e4 => ?_) (fun e4 => ?_)
    · refine k _ _ (Ex.refl _) ?_
      rw [no_num (fun z => by rw [z] at e4; exact absurd e4 (by decide))]
      exact At.leaf rfl
    obtain ⟨y, z, u, rfl⟩ : ∃ y z u, r = [y, z, u] := by
      have h4 : (x :: r).length = 4 := by
        have e4 : ¬ ((!decide ((((x :: r).length : Nat) : Int) = 4)) = true) := e4
        simp only [Bool.not_eq_true', decide_eq_false_iff_not, Decidable.not_not] at e4
        omega
      rw [List.length_cons] at h4
      match r, (show r.length = 3 by omega) with
      | [y, z, u], _ => exact ⟨y, z, u, rfl⟩
    clear no_num n1 n2 e4
    have two : ∀ {R : VK}, R (.str z) H2 → rIx K (.ref a) (.int 2) H2 R := fun {R} q => .inl ⟨a, _, 2, .str z, rfl, rfl, sq_of ha, rfl, q⟩
    refine ⟨fun σ' H3 => σ' = [some (.ref a), some (.str x), some (.int (([x, y, z, u] : List Str).length : Nat))] ∧ H3 = H2 ∧ ¬ ((x = tTold ∧ z = tWithin) ∨ (x = tWarned ∧ z = tAhead)), ?_, ?_⟩
    · have yes : ((x = tTold ∧ z = tWithin) ∨ (x = tWarned ∧ z = tAhead)) → ∀ v H1 t, Ex H2 H1 → LfD v (numP u) → H1 t = none → Q (.ref t) (upd H1 t (.tup [.str x, .str y, v])) := fun c v H1 t e1 hv ht => by
        refine k _ _ (e1.trans (Ex.new ht)) ?_
        rw [raw4, if_pos c]
        exact At.up (At.tup (np_new hp e1 ht) upd_same (by show 3 ≤ 2000; decide) (.cons (At.leaf (LfD.st (kn (i := 0) rfl))) (.cons (At.leaf (LfD.st (kn (i := 1) rfl))) (.cons (At.leaf hv) .nil))))
      have second : ¬ (x = tTold ∧ z = tWithin) → _ := fun n1 => n1
      refine ⟨_, rfl, rfl, _, rfl, ?_⟩
      rw [strE]
      refine ite2 (fun e1 => ?_) (fun e1 => ?_)
      · refine ⟨_, rfl, two ⟨rfl, _, rfl, ?_⟩⟩
        rw [strE]
        refine ite2 (fun e2 => ?_) (fun e2 => ?_)
        · exact ⟨_, rfl, _, rfl, .inl ⟨a, _, 1, .str y, rfl, rfl, sq_of ha, rfl, _, rfl, .inl ⟨a, _, 3, .str u, rfl, rfl, sq_of ha, rfl, u, rfl, kn (i := 3) rfl, fun v H1 e3 hv => ⟨(by show 3 ≤ sizeLine; decide), fun t ht => yes (.inl ⟨of_decide_eq_true e1, of_decide_eq_true e2⟩) v H1 t e3 hv ht⟩⟩⟩⟩
        · refine ⟨_, rfl, rfl, _, rfl, ?_⟩
          rw [strE]
          refine ite2 (fun e3 => ?_) (fun e3 => ⟨rfl, rfl, ?_⟩)
          · exact absurd ((of_decide_eq_true e1).symm.trans (of_decide_eq_true e3)) (by decide +kernel)
          · rintro (⟨_, q⟩ | ⟨q, _⟩)
            · exact e2 (decide_eq_true q)
            · exact e3 (decide_eq_true q)
      · refine ⟨_, rfl, rfl, _, rfl, ?_⟩
        rw [strE]
        refine ite2 (fun e3 => ?_) (fun e3 => ⟨rfl, rfl, ?_⟩)
        · refine ⟨_, rfl, two ⟨rfl, _, rfl, ?_⟩⟩
          rw [strE]
          refine ite2 (fun e4 => ?_) (fun e4 => ⟨rfl, rfl, ?_⟩)
          · exact ⟨_, rfl, _, rfl, .inl ⟨a, _, 1, .str y, rfl, rfl, sq_of ha, rfl, _, rfl, .inl ⟨a, _, 3, .str u, rfl, rfl, sq_of ha, rfl, u, rfl, kn (i := 3) rfl, fun v H1 e5 hv => ⟨(by show 3 ≤ sizeLine; decide), fun t ht => yes (.inr ⟨of_decide_eq_true e3, of_decide_eq_true e4⟩) v H1 t e5 hv ht⟩⟩⟩⟩
          · rintro (⟨q, _⟩ | ⟨_, q⟩)
            · exact e1 (decide_eq_true q)
            · exact e4 (decide_eq_true q)
        · rintro (⟨q, _⟩ | ⟨q, _⟩)
          · exact e1 (decide_eq_true q)
          · exact e3 (decide_eq_true q)
    rintro σ3 H3 ⟨rfl, rfl, n3⟩
    refine ⟨fun σ' H4 => σ' = [some (.ref a), some (.str x), some (.int (([x, y, z, u] : List Str).length : Nat))] ∧ H4 = H3 ∧ ¬ (x = tSure ∧ z = tBy), ?_, ?_⟩
    · refine ⟨_, rfl, rfl, _, rfl, ?_⟩
      rw [strE]
      refine ite2 (fun e1 => ?_) (fun e1 => ⟨rfl, rfl, fun q => e1 (decide_eq_true q.1)⟩)
      refine ⟨_, rfl, two ⟨rfl, _, rfl, ?_⟩⟩
      rw [strE]
      refine ite2 (fun e2 => ?_) (fun e2 => ⟨rfl, rfl, fun q => e2 (decide_eq_true q.2)⟩)
      refine ⟨_, rfl, .inl ⟨a, _, 3, .str u, rfl, rfl, sq_of ha, rfl, p, u, rfl, kn (i := 3) rfl, hp, fun v H1 e3 hv => ?_⟩⟩
      have hp1 : H1 p ≠ none := by
        cases h : H3 p with
        | none => exact absurd h hp
        | some o => rw [e3 _ _ h]; exact fun z => nomatch z
      refine ⟨_, rfl, .inl ⟨a, _, 1, .str y, rfl, rfl, sq_of (e3 _ _ ha), rfl, p, y, rfl, kn (i := 1) rfl, hp1, fun v2 H5 e4 hv2 => ?_⟩⟩
      refine ⟨(by show 3 ≤ sizeLine; decide), fun t ht => k _ _ (e3.trans (e4.trans (Ex.new ht))) ?_⟩
      rw [raw4, if_neg n3, if_pos ⟨of_decide_eq_true e1, of_decide_eq_true e2⟩]
      exact At.tup (np_new hp1 e4 ht) upd_same (by show 3 ≤ 2000; decide) (.cons (At.leaf (LfD.str (by decide +kernel))) (.cons ((hv.ex e4).ex (Ex.new ht)) (.cons (hv2.ex (Ex.new ht)) .nil)))
    rintro σ4 H4 ⟨rfl, rfl, n4⟩
    refine k _ _ (Ex.refl _) ?_
    rw [raw4, if_neg n3, if_neg n4]
    exact At.leaf rfl
end
end WK

set_option Elab.async false
set_option linter.all false
set_option maxRecDepth 100000
set_option maxHeartbeats 4000000
namespace WK
open PySem PySem.Spec PyProof.Rows L2 WW Evl TL
theorem sum_le : ∀ {ys : List Str} {m : Nat}, (∀ y ∈ ys, y.length ≤ m) → (ys.map (·.length)).sum ≤ m * ys.length
  | [], _, _ => by simp
  | y :: ys, m, h => by
    have h1 := h y List.mem_cons_self
    have h2 := sum_le (ys := ys) fun x hx => h x (List.mem_cons_of_mem _ hx)
    rw [List.map_cons, List.sum_cons, List.length_cons, Nat.mul_add]
    omega
/-- the rows of what stands somewhere -/
theorem At.rowN {p : Addr} {n : Nat} {H : Hp} {v : V} {d : PyData} (h : At p n H v d) : WW.rowN d ≤ 2000 := by
  rcases h.isT with ⟨m, a, xs, ds, _, rfl, np, rfl, ha, l, pr, e⟩ | ⟨e, nt⟩
  · have := prd_len pr
    show ds.length ≤ 2000
    omega
  · cases d <;> first | exact Nat.zero_le _ | exact absurd rfl (nt _)
theorem At.short {p : Addr} {n : Nat} {H : Hp} {v : V} {d : PyData} (h : At p n H v d) : shortW 2000 d = true := by
  rcases h.isT with ⟨m, a, xs, ds, _, rfl, np, rfl, ha, l, pr, e⟩ | ⟨e, nt⟩
  · match ds, pr with
    | [_, x, y], .cons g1 (.cons g2 (.cons g3 .nil)) =>
      show (decide _ && decide _) = true
      rw [decide_eq_true g2.rowN, decide_eq_true g3.rowN]
      rfl
    | [], _ => rfl
    | [_], _ => rfl
    | [_, _], _ => rfl
    | _ :: _ :: _ :: _ :: _, _ => rfl
  · cases d <;> first | rfl | exact absurd rfl (nt _)
theorem At.textLen {p : Addr} {n : Nat} {H : Hp} {v : V} {d : PyData} (h : At p n H v d) (f : formD d = true) : (textD d).length ≤ 44200 := by
  have := textD_len f h.short
  omega
theorem wl10 : ∀ x ∈ [tKept, tTold, tWarned, tHidden, tSure, tWithin, tAhead, tJointly, tBy], x.length ≤ 10 := by decide +kernel
section
variable {P : Program} {w : World} {K : PySem.W.Frag} {mg : Str → Option Value} {base : Heap} {f : Addr} {fd : FuncData}
abbrev s_row_worded : Stmt := top 35
theorem sc_row_worded : FnScope ["words"] ["words"] (defScope s_row_worded) := ⟨rfl, rfl, rfl, by decide +kernel, rfl, by decide +kernel, by decide +kernel⟩
def spRowW : Sp := fun vs H Q _ => ∃ p n v d, vs = [v] ∧ At p n H v d ∧ wdsD d = true ∧ ∀ H', Ex H H' → Q (.str (rowT d)) H'
theorem ok_row_worded (G : Gz mg) (WD : Wd mg) (D : Df K mg "row_worded" s_row_worded f fd ["words"]) : Callee P w K mg base CXn 1 "row_worded" 1 spRowW := by
  obtain ⟨t_NO_WORDS, g_NO_WORDS⟩ := WD.NO_WORDS
  have r_NO_WORDS : RelV (.str mn1) (.str mn1 t_NO_WORDS) := ⟨_, rfl⟩
  refine D.callee (D.fn.ok sc_row_worded (fun vs H Q E h => ?_) (fun cdv A outer s H vs Q E hr h => ⟨_, PSs.nox (pss_one (ps_ret (pe_ifExp (pt_truth (pv 0) (by intro _; rfl)) (pe_join pe_str (pv 0)) (pe_glob rfl g_NO_WORDS r_NO_WORDS)))), ?_⟩))
  · obtain ⟨_, _, _, _, rfl, _⟩ := h
    rfl
  · obtain ⟨p, n, v, d, rfl, hv, hw, k⟩ := h
    have q := k H (Ex.refl _)
    match d, hw with
    | .tuple ds, hw =>
      obtain ⟨m, a, xs, _, rfl, np, ha, l, pr⟩ := hv.tups
      have hd : ds.all nmD = true := by
        have hw : (ds.all nmD && ascS (ds.map stD)) = true := hw
        rw [Bool.and_eq_true] at hw
        exact hw.1
      have ex := names_at pr hd
      obtain ⟨_, g⟩ := all_str hd
      refine ⟨_, rfl, _, .inr (.inl ⟨xs, st_of ha, rfl⟩), ?_⟩
      cases ds with
      | nil =>
        rw [ex]
        exact iteF q
      | cons x ds =>
        have e1 : (!xs.isEmpty) = true := by rw [ex]; rfl
        rw [e1]
        refine iteT ⟨⟨_, rfl⟩, _, rfl, cm1, a, (x :: ds).map stD, rfl, rfl, .inr (st_of (ex ▸ ha)), ?_, ?_⟩
        · have h1 := sum_le (ys := (x :: ds).map stD) (m := 10) fun y hy => (nmS_len (g y hy)).2
          have h2 : ((x :: ds).map stD).length ≤ 2000 := by rw [ex, List.length_map] at l; exact l
          have h3 : cm1.length = 1 := by decide +kernel
          rw [h3]
          omega
        · rw [show Txt.join cm1 ((x :: ds).map stD) = Str.join cm1 ((x :: ds).map stD) from join_eq _ _]
          exact q
abbrev s_worded : Stmt := top 32
theorem sc_worded : FnScope ["wish", "form", "about", "more"] ["wish"] (defScope s_worded) := ⟨rfl, rfl, rfl, by decide +kernel, rfl, by decide +kernel, by decide +kernel⟩
def spWordedG (C : Addr) : Sp := fun vs H Q E => ∃ p n v d, vs = [v] ∧ At p n H v d ∧ (formD d = false → ∀ H' dd, Ex H H' → H' dd = none → E (.ref C) (some dd) (upd H' dd (.xd [("value", v)]))) ∧ (formD d = true → ∀ H', Ex H H' → Q (.str (textD d)) H')
theorem int_log {i : Int} (h0 : 0 ≤ i) (h1 : i < 1001) : i.natAbs.log2 < 1920 := by
  have := Nat.log2_le_self i.natAbs
  omega
theorem okg_worded {C_BadWish : Addr} (G : Gz mg) (WD : Wd mg) (X_BadWish : ExR P w K mg base 1 "BadWish" C_BadWish "value") (D : Df K mg "worded" s_worded f fd ["wish"]) (c_is_form : Callee P w K mg base CXn 4 "is_form" 1 spIsForm) (c_row_worded : Callee P w K mg base CXn 1 "row_worded" 1 spRowW) :
    FnOk P w K mg base (L2.CX P w) 5 f fd ["wish"] (spWordedG C_BadWish) := by
  obtain ⟨t_KEPT, g_KEPT⟩ := WD.KEPT
  have r_KEPT : RelV (.str tKept) (.str tKept t_KEPT) := ⟨_, rfl⟩
  obtain ⟨t_TOLD, g_TOLD⟩ := WD.TOLD
  have r_TOLD : RelV (.str tTold) (.str tTold t_TOLD) := ⟨_, rfl⟩
  obtain ⟨t_WARNED, g_WARNED⟩ := WD.WARNED
  have r_WARNED : RelV (.str tWarned) (.str tWarned t_WARNED) := ⟨_, rfl⟩
  obtain ⟨t_HIDDEN, g_HIDDEN⟩ := WD.HIDDEN
  have r_HIDDEN : RelV (.str tHidden) (.str tHidden t_HIDDEN) := ⟨_, rfl⟩
  obtain ⟨t_SURE, g_SURE⟩ := WD.SURE
  have r_SURE : RelV (.str tSure) (.str tSure t_SURE) := ⟨_, rfl⟩
  obtain ⟨t_WITHIN, g_WITHIN⟩ := WD.WITHIN
  have r_WITHIN : RelV (.str tWithin) (.str tWithin t_WITHIN) := ⟨_, rfl⟩
  obtain ⟨t_AHEAD, g_AHEAD⟩ := WD.AHEAD
  have r_AHEAD : RelV (.str tAhead) (.str tAhead t_AHEAD) := ⟨_, rfl⟩
  obtain ⟨t_JOINTLY, g_JOINTLY⟩ := WD.JOINTLY
  have r_JOINTLY : RelV (.str tJointly) (.str tJointly t_JOINTLY) := ⟨_, rfl⟩
  obtain ⟨t_BY, g_BY⟩ := WD.BY
  have r_BY : RelV (.str tBy) (.str tBy t_BY) := ⟨_, rfl⟩
  refine D.fn.ok sc_worded (fun vs H Q E h => ?_) (fun cdv A outer s H vs Q E hr h => ⟨_, (pss_cons (ps_if (pt_not (pt_val (pe_cl (E := En) c_is_form (hr.mono (by decide)) rfl passN (pa_cons (pv 0) pa_nil)))) (pss_one (ps_raiseE X_BadWish rfl (hr.mono (by decide)) (takes_of rfl rfl rfl rfl) rfl (pv 0))) pss_nil) (pss_cons (ps_if (pt_cmpR op_eq (pe_ix (ixK (K := K) rfl) (pv 0) pe_int (fun _ _ => rfl)) (pe_glob rfl g_KEPT r_KEPT) (nomark _)) (pss_one (ps_ret (pe_glob rfl g_KEPT r_KEPT))) pss_nil) (pss_cons (ps_asg (pv 0) (pg_tup rfl (pgs_cons (pg_name (i := 1) sc_worded.nd rfl (Or.inl rfl)) (pgs_cons (pg_name (i := 2) sc_worded.nd rfl (Or.inl rfl)) (pgs_cons (pg_name (i := 3) sc_worded.nd rfl (Or.inl rfl)) pgs_nil))))) (pss_cons (ps_if (pt_cmpR op_eq (pv 1) (pe_glob rfl g_TOLD r_TOLD) (nomark _)) (pss_one (ps_ret (pe_join pe_str (pe_lst (pa_cons (pe_glob rfl g_TOLD r_TOLD) (pa_cons (pv 2) (pa_cons (pe_glob rfl g_WITHIN r_WITHIN) (pa_cons (pe_callTy call_str_int rfl G.g_str (by rfl) (pa_cons (pv 3) pa_nil)) pa_nil)))))))) pss_nil) (pss_cons (ps_if (pt_cmpR op_eq (pv 1) (pe_glob rfl g_WARNED r_WARNED) (nomark _)) (pss_one (ps_ret (pe_join pe_str (pe_lst (pa_cons (pe_glob rfl g_WARNED r_WARNED) (pa_cons (pv 2) (pa_cons (pe_glob rfl g_AHEAD r_AHEAD) (pa_cons (pe_callTy call_str_int rfl G.g_str (by rfl) (pa_cons (pv 3) pa_nil)) pa_nil)))))))) pss_nil) (pss_cons (ps_if (pt_cmpR op_eq (pv 1) (pe_glob rfl g_HIDDEN r_HIDDEN) (nomark _)) (pss_one (ps_ret (pe_join pe_str (pe_ifExp (pt_val (pv 3)) (pe_lst (pa_cons (pe_glob rfl g_HIDDEN r_HIDDEN) (pa_cons (pv 2) (pa_cons (pe_glob rfl g_JOINTLY r_JOINTLY) pa_nil)))) (pe_lst (pa_cons (pe_glob rfl g_HIDDEN r_HIDDEN) (pa_cons (pv 2) pa_nil))))))) pss_nil) (pss_one (ps_ret (pe_join pe_str (pe_lst (pa_cons (pe_glob rfl g_SURE r_SURE) (pa_cons (pe_cl (E := En) c_row_worded (hr.mono (by decide)) rfl passN (pa_cons (pv 3) pa_nil)) (pa_cons (pe_glob rfl g_BY r_BY) (pa_cons (pe_cl (E := En) c_row_worded (hr.mono (by decide)) rfl passN (pa_cons (pv 2) pa_nil)) pa_nil)))))))))))))), ?_⟩)
  · obtain ⟨_, _, _, _, rfl, _⟩ := h
    rfl
  · obtain ⟨p, n, v, d, rfl, hv, bad, good⟩ := h
    refine ⟨_, rfl, p, n, v, d, rfl, hv, fun H1 e1 => ⟨_, rfl, ?_⟩⟩
    cases hf : formD d with
    | false =>
      refine iteT ⟨_, rfl, ?_⟩
      exact raise_go fun dd hd => bad hf H1 dd e1 hd
    | true =>
      refine iteF ?_
      have tl1 := hv.textLen hf
      have q := good hf
      have hv1 := hv.ex e1
      have neq : ∀ {x y : Str} {A B : Prop}, x ≠ y → B → if decide (V.str x = V.str y) = true then A else B := fun {x y A B} n b => by
        rw [if_neg]
        · exact b
        · rw [strE]
          exact fun z => n (of_decide_eq_true z)
      have yeq : ∀ {x : Str} {A B : Prop}, A → if decide (V.str x = V.str x) = true then A else B := fun {x A B} b => by
        rw [if_pos (decide_eq_true rfl)]
        exact b
      rcases form_cases hf with rfl | ⟨z, i, hd, hz, i0, i1⟩ | ⟨z, b, rfl, hz⟩ | ⟨x, y, rfl, hx, hy⟩
      · obtain ⟨m, a, xs, _, rfl, np, ha, l, pr⟩ := hv1.tups
        match xs, pr with
        | [u], .cons g .nil =>
          obtain ⟨rfl, _⟩ := g.strs
          refine ⟨_, rfl, .inr (.inl ⟨a, _, 0, _, rfl, rfl, st_of ha, rfl, rfl, _, rfl, ?_⟩)⟩
          exact yeq (q H1 e1)
      · have num : ∀ (f x : Str), (f = tTold ∧ x = tWithin) ∨ (f = tWarned ∧ x = tAhead) → d = .tuple [.str f, .str z, .int i] → partsD d = [f, z, x, numT (.int i)] := fun f x h e => by
          subst e
          rcases h with ⟨rfl, rfl⟩ | ⟨rfl, rfl⟩
          · exact parts_told _ _
          · exact parts_warned _ _
        have fin : ∀ (f x : Str), (f = tTold ∧ x = tWithin) ∨ (f = tWarned ∧ x = tAhead) → d = .tuple [.str f, .str z, .int i] → ∀ l, H1 l = none → ∃ (a_1 : Str) (p : Addr) (ys : List Str), V.str sp1 = .str a_1 ∧ [V.ref l] = [.ref p] ∧ (SqL K (upd H1 l (.lst [.str f, .str z, .str x, .str (toString i)])) p (ys.map V.str) ∨ SqT K (upd H1 l (.lst [.str f, .str z, .str x, .str (toString i)])) p (ys.map V.str)) ∧ (ys.map (·.length)).sum + ys.length * a_1.length ≤ 16777216 ∧ Q (.str (Txt.join a_1 ys)) (upd H1 l (.lst [.str f, .str z, .str x, .str (toString i)])) := fun f x h e l hl => by
          refine ⟨sp1, l, [f, z, x, numT (.int i)], rfl, rfl, .inl (sq_of upd_same), ?_, ?_⟩
          · have h1 := sum_le (ys := [f, z, x, numT (.int i)]) (m := 10) fun y hy => by
              simp only [List.mem_cons, List.not_mem_nil, or_false] at hy
              have hn := numT_len i0 i1
              have hz2 := (nmS_len hz).2
              have hf : f.length ≤ 10 ∧ x.length ≤ 10 := by
                rcases h with ⟨e1, e2⟩ | ⟨e1, e2⟩ <;> rw [e1, e2] <;> exact ⟨wl10 _ (by simp), wl10 _ (by simp)⟩
              rcases hy with e | e | e | e <;> rw [e] <;> first | exact hf.1 | exact hf.2 | exact hz2 | exact Nat.le_trans hn (by decide)
            have h3 : sp1.length = 1 := by decide +kernel
            rw [h3]
            simp only [List.length_cons, List.length_nil] at h1 ⊢
            omega
          · rw [show Txt.join sp1 [f, z, x, numT (.int i)] = Str.join sp1 [f, z, x, numT (.int i)] from join_eq _ _, ← num f x h e]
            exact q _ (e1.trans (Ex.new hl))
        have walk : ∀ f, d = .tuple [.str f, .str z, .int i] → ∃ a, v = .ref a ∧ H1 a = some (.tup [.str f, .str z, .int i]) := fun f e => by
          subst e
          obtain ⟨m, a, xs, _, rfl, np, ha, l, pr⟩ := hv1.tups
          match xs, pr with
          | [u1, u2, u3], .cons g1 (.cons g2 (.cons g3 .nil)) =>
            obtain ⟨rfl, _⟩ := g1.strs
            obtain ⟨rfl, _⟩ := g2.strs
            cases g3.ints
            exact ⟨a, rfl, ha⟩
        rcases hd with hd | hd
        · obtain ⟨a, rfl, ha⟩ := walk _ hd
          refine ⟨_, rfl, .inr (.inl ⟨a, _, 0, _, rfl, rfl, st_of ha, rfl, rfl, _, rfl, neq (by decide +kernel) ?_⟩)⟩
          refine ⟨_, rfl, a, _, rfl, st_of ha, rfl, _, _, rfl, _, _, rfl, _, _, rfl, rfl, ?_⟩
          refine ⟨_, rfl, rfl, _, rfl, yeq ?_⟩
          exact ⟨⟨_, rfl⟩, _, rfl, _, rfl, i, rfl, int_log i0 i1, (by show 4 ≤ sizeLine; decide), fun l hl => fin _ _ (.inl ⟨rfl, rfl⟩) hd l hl⟩
        · obtain ⟨a, rfl, ha⟩ := walk _ hd
          refine ⟨_, rfl, .inr (.inl ⟨a, _, 0, _, rfl, rfl, st_of ha, rfl, rfl, _, rfl, neq (by decide +kernel) ?_⟩)⟩
          refine ⟨_, rfl, a, _, rfl, st_of ha, rfl, _, _, rfl, _, _, rfl, _, _, rfl, rfl, ?_⟩
          refine ⟨_, rfl, rfl, _, rfl, neq (by decide +kernel) ?_⟩
          refine ⟨_, rfl, rfl, _, rfl, yeq ?_⟩
          exact ⟨⟨_, rfl⟩, _, rfl, _, rfl, i, rfl, int_log i0 i1, (by show 4 ≤ sizeLine; decide), fun l hl => fin _ _ (.inr ⟨rfl, rfl⟩) hd l hl⟩
      · obtain ⟨m, a, xs, _, rfl, np, ha, l, pr⟩ := hv1.tups
        match xs, pr with
        | [u1, u2, u3], .cons g1 (.cons g2 (.cons g3 .nil)) =>
          obtain ⟨rfl, _⟩ := g1.strs
          obtain ⟨rfl, _⟩ := g2.strs
          cases g3.bools
          refine ⟨_, rfl, .inr (.inl ⟨a, _, 0, _, rfl, rfl, st_of ha, rfl, rfl, _, rfl, neq (by decide +kernel) ?_⟩)⟩
          refine ⟨_, rfl, a, _, rfl, st_of ha, rfl, _, _, rfl, _, _, rfl, _, _, rfl, rfl, ?_⟩
          refine ⟨_, rfl, rfl, _, rfl, neq (by decide +kernel) ?_⟩
          refine ⟨_, rfl, rfl, _, rfl, neq (by decide +kernel) ?_⟩
          refine ⟨_, rfl, rfl, _, rfl, yeq ?_⟩
          have hz2 := (nmS_len hz).2
          have h3 : sp1.length = 1 := by decide +kernel
          refine ⟨⟨_, rfl⟩, _, rfl, _, rfl, ?_⟩
          cases b with
          | true =>
            refine iteT ⟨_, rfl, (by show 3 ≤ sizeLine; decide), fun l hl => ⟨sp1, l, [tHidden, z, tJointly], rfl, rfl, .inl (sq_of upd_same), ?_, ?_⟩⟩
            · have h1 := sum_le (ys := [tHidden, z, tJointly]) (m := 10) fun y hy => by
                simp only [List.mem_cons, List.not_mem_nil, or_false] at hy
                rcases hy with e | e | e <;> rw [e] <;> first | exact hz2 | exact wl10 _ (by simp)
              rw [h3]
              simp only [List.length_cons, List.length_nil] at h1 ⊢
              omega
            · rw [show Txt.join sp1 [tHidden, z, tJointly] = Str.join sp1 [tHidden, z, tJointly] from join_eq _ _]
              exact q _ (e1.trans (Ex.new hl))
          | false =>
            refine iteF ⟨_, rfl, (by show 2 ≤ sizeLine; decide), fun l hl => ⟨sp1, l, [tHidden, z], rfl, rfl, .inl (sq_of upd_same), ?_, ?_⟩⟩
            · have h1 := sum_le (ys := [tHidden, z]) (m := 10) fun y hy => by
                simp only [List.mem_cons, List.not_mem_nil, or_false] at hy
                rcases hy with e | e <;> rw [e] <;> first | exact hz2 | exact wl10 _ (by simp)
              rw [h3]
              simp only [List.length_cons, List.length_nil] at h1 ⊢
              omega
            · rw [show Txt.join sp1 [tHidden, z] = Str.join sp1 [tHidden, z] from join_eq _ _]
              exact q _ (e1.trans (Ex.new hl))
      · obtain ⟨m, a, xs, _, rfl, np, ha, l, pr⟩ := hv1.tups
        match xs, pr with
        | [u1, u2, u3], .cons g1 (.cons g2 (.cons g3 .nil)) =>
          obtain ⟨rfl, _⟩ := g1.strs
          refine ⟨_, rfl, .inr (.inl ⟨a, _, 0, _, rfl, rfl, st_of ha, rfl, rfl, _, rfl, neq (by decide +kernel) ?_⟩)⟩
          refine ⟨_, rfl, a, _, rfl, st_of ha, rfl, _, _, rfl, _, _, rfl, _, _, rfl, rfl, ?_⟩
          refine ⟨_, rfl, rfl, _, rfl, neq (by decide +kernel) ?_⟩
          refine ⟨_, rfl, rfl, _, rfl, neq (by decide +kernel) ?_⟩
          refine ⟨_, rfl, rfl, _, rfl, neq (by decide +kernel) ?_⟩
          refine ⟨⟨_, rfl⟩, _, rfl, p, m, u3, y, rfl, g3, hy, fun H2 e2 => ?_⟩
          refine ⟨_, rfl, p, m, u2, x, rfl, g2.ex e2, hx, fun H3 e3 => ?_⟩
          refine ⟨(by show 4 ≤ sizeLine; decide), fun l hl => ⟨sp1, l, [tSure, rowT y, tBy, rowT x], rfl, rfl, .inl (sq_of upd_same), ?_, ?_⟩⟩
          · have h1 := sum_le (ys := [tSure, rowT y, tBy, rowT x]) (m := 22001) fun z hz => by
              simp only [List.mem_cons, List.not_mem_nil, or_false] at hz
              have hx2 := rowT_len hx g2.rowN
              have hy2 := rowT_len hy g3.rowN
              rcases hz with e | e | e | e <;> rw [e] <;> first | exact hx2 | exact hy2 | exact Nat.le_trans (wl10 _ (by simp)) (by decide)
            have h3 : sp1.length = 1 := by decide +kernel
            rw [h3]
            simp only [List.length_cons, List.length_nil] at h1 ⊢
            omega
          · rw [show Txt.join sp1 [tSure, rowT y, tBy, rowT x] = Str.join sp1 [tSure, rowT y, tBy, rowT x] from join_eq _ _, ← parts_sure]
            exact q _ (e1.trans (e2.trans (e3.trans (Ex.new hl))))
abbrev s_read_wish : Stmt := top 33
theorem sc_read_wish : FnScope ["text", "wish"] ["text"] (defScope s_read_wish) := ⟨rfl, rfl, rfl, by decide +kernel, rfl, by decide +kernel, by decide +kernel⟩
def spReadG (C : Addr) : Sp := fun vs H Q E => ∃ p v, vs = [v] ∧ Pl H v ∧ H p ≠ none ∧ (isS v = false → ∀ H' dd, Ex H H' → H' dd = none → E (.ref C) (some dd) (upd H' dd (.xd [("at", .int (-1))]))) ∧
  ∀ t, v = .str t → t.length ≤ 1000 ∧ (formD (raw numP (Txt.split t sp1)) = false → ∀ H' dd, Ex H H' → H' dd = none → E (.ref C) (some dd) (upd H' dd (.xd [("at", .int 0)]))) ∧
    (formD (raw numP (Txt.split t sp1)) = true → ∀ x H', Ex H H' → At p 2 H' x (raw numP (Txt.split t sp1)) → Q x H')
theorem okg_read {C_BadText : Addr} (G : Gz mg) (X_BadText : ExR P w K mg base 1 "BadText" C_BadText "at") (D : Df K mg "read_wish" s_read_wish f fd ["text"]) (c_wish_of : Callee P w K mg base CXn 3 "wish_of" 1 spWishOf) (c_is_form : Callee P w K mg base CXn 4 "is_form" 1 spIsForm) :
    FnOk P w K mg base (L2.CX P w) 5 f fd ["text"] (spReadG C_BadText) := by
  refine D.fn.ok sc_read_wish (fun vs H Q E h => ?_) (fun cdv A outer s H vs Q E hr h => ⟨_, (pss_cons (ps_if (pt_not (pt_val (pe_callB (isiK (K := K) rfl) rfl G.g_isinstance (by rfl) (pa_cons (pv 0) (pa_cons (pe_bltn (v := .ty "str") rfl G.g_str (by rfl) rfl) pa_nil))))) (pss_one (ps_raiseE X_BadText rfl (hr.mono (by decide)) (takes_of rfl rfl rfl rfl) rfl (pe_un un_neg pe_int))) pss_nil) (pss_cons (ps_set (i := 1) sc_read_wish.nd rfl (Or.inl rfl) (pe_cl (E := En) c_wish_of (hr.mono (by decide)) rfl passN (pa_cons (pe_split (pv 0) pe_str) pa_nil))) (pss_cons (ps_if (pt_not (pt_val (pe_cl (E := En) c_is_form (hr.mono (by decide)) rfl passN (pa_cons (pv 1) pa_nil)))) (pss_one (ps_raiseE X_BadText rfl (hr.mono (by decide)) (takes_of rfl rfl rfl rfl) rfl pe_int)) pss_nil) (pss_one (ps_ret (pv 1)))))), ?_⟩)
  · obtain ⟨_, _, rfl, _⟩ := h
    rfl
  · obtain ⟨p, v, rfl, hv, hp, bad, txt⟩ := h
    obtain ⟨t, g⟩ := hv.kin (K := K)
    refine ⟨_, rfl, v, .ty "str", t, .type "str", isS v, rfl, .ty _, g.ty, g.str, isS v, rfl, ?_⟩
    cases hs : isS v with
    | false =>
      refine iteT ⟨_, rfl, ?_⟩
      exact raise_go fun dd hd => bad hs H dd (Ex.refl _) hd
    | true =>
      refine iteF ?_
      obtain ⟨x, rfl⟩ : ∃ x, v = .str x := by cases v <;> first | exact ⟨_, rfl⟩ | exact nomatch (show false = true from hs)
      obtain ⟨xl, no, yes⟩ := txt x rfl
      refine ⟨_, rfl, ⟨_, rfl⟩, x, sp1, rfl, rfl, sp_len, Nat.le_trans (by omega : _ ≤ 1002) (by decide), fun l hl => ?_⟩
      have e1 : Ex H (upd H l (.lst ((Txt.split x sp1).map V.str))) := Ex.new hl
      have hp1 : upd H l (.lst ((Txt.split x sp1).map V.str)) p ≠ none := by
        rw [upd_ne (fun z => hp (by rw [z]; exact hl))]
        exact hp
      refine ⟨p, l, Txt.split x sp1, rfl, upd_same, split_ne _ _, by have := split_le x sp1; omega, fun y hy => Nat.le_trans (split_part hy) xl, hp1, fun u H2 e2 hu => ?_⟩
      refine ⟨_, rfl, p, 2, u, _, rfl, hu, fun H3 e3 => ⟨_, rfl, ?_⟩⟩
      cases hf : formD (raw numP (Txt.split x sp1)) with
      | false =>
        refine iteT ?_
        exact raise_go fun dd hd => no hf H3 dd (e1.trans (e2.trans e3)) hd
      | true => exact iteF ⟨_, rfl, yes hf u H3 (e1.trans (e2.trans e3)) (hu.ex e3)⟩
end
end WK

set_option Elab.async false
set_option linter.all false
set_option maxRecDepth 100000
set_option maxHeartbeats 4000000
namespace WK
open PySem PySem.Spec PyProof.Rows L2 WW Evl TL
theorem cnt0 {α : Type} (f : α → Bool) (l : List α) : decide (V.int (((l.filter f).length : Nat) : Int) = V.int 0) = l.all fun x => !f x := by
  rw [intE, Bool.eq_iff_iff, decide_eq_true_eq, List.all_eq_true]
  constructor
  · intro h x hx
    have h0 : (l.filter f).length = 0 := by omega
    have := List.filter_eq_nil_iff.mp (List.eq_nil_of_length_eq_zero h0) x hx
    simpa using this
  · intro h
    have : l.filter f = [] := List.filter_eq_nil_iff.mpr fun x hx => by simpa using h x hx
    rw [this]
    rfl
theorem gt0 {α : Type} (f : α → Bool) (l : List α) : decide ((0 : Int) < (((l.filter f).length : Nat) : Int)) = !l.all fun x => !f x := by
  rw [← cnt0, intE]
  cases h : decide ((((l.filter f).length : Nat) : Int) = 0) with
  | true =>
    have := of_decide_eq_true h
    exact decide_eq_false (by omega)
  | false =>
    have := of_decide_eq_false h
    exact decide_eq_true (by omega)
theorem abc_iff {c : Nat} : decide (c ∈ abc.cps.toList) = lcB c := by
  unfold lcB
  rw [Bool.eq_iff_iff, decide_eq_true_eq, Bool.and_eq_true, decide_eq_true_eq, decide_eq_true_eq]
  constructor
  · exact abc_mem
  · rintro ⟨h1, h2⟩
    have := abc_at ⟨c - 97, by omega⟩
    have e : 97 + (c - 97) = c := by omega
    rw [show (⟨c - 97, by omega⟩ : Fin 26).1 = c - 97 from rfl, e] at this
    exact List.mem_of_getElem? this
abbrev dig10 : Str := "0123456789"
theorem dig_iff {c : Nat} : decide (c ∈ dig10.cps.toList) = dgB c := by
  have e : dig10.cps.toList = [48, 49, 50, 51, 52, 53, 54, 55, 56, 57] := by decide +kernel
  unfold dgB
  rw [e, Bool.eq_iff_iff, decide_eq_true_eq, Bool.and_eq_true, decide_eq_true_eq, decide_eq_true_eq]
  simp only [List.mem_cons, List.not_mem_nil, or_false]
  omega
/-- the only sign of a text -/
def sgOf : V → Nat | .str z => z.cps.toList.headD 0 | _ => 0
theorem chs_all (g : Nat → Bool) (z : Str) : ((chs z).all fun x => !!g (sgOf x)) = z.cps.toList.all g := by
  unfold chs
  rw [List.all_map]
  congr 1
  funext c
  show (!!g c) = g c
  rw [Bool.not_not]
/-- the words, each behind a comma -/
def flatC (zs : List Str) : List Nat := zs.flatMap fun z => 44 :: tl z
theorem flat_join : ∀ {zs : List Str}, zs ≠ [] → flatC zs = 44 :: tl (Str.join cm1 zs)
  | [], h => absurd rfl h
  | [z], _ => by
    show (44 :: tl z) ++ [] = 44 :: tl z
    rw [List.append_nil]
  | z :: y :: r, _ => by
    have ih := flat_join (zs := y :: r) (by simp)
    show (44 :: tl z) ++ flatC (y :: r) = 44 :: tl (z ++ cm1 ++ Str.join cm1 (y :: r))
    rw [ih, tl_append, tl_append, tl_cm, List.append_assoc]
    rfl
theorem cut1 (z : Str) : tl (cutS z (some 1) none) = (tl z).drop 1 := by
  unfold cutS
  rw [HT.sIx_none]
  have e : HT.sIx z.length 0 (some 1) = min 1 z.length := HT.sIx_nat z.length 0 1
  rw [e]
  show ((z.cps.toList.drop (min 1 z.length)).take (z.length - min 1 z.length)) = z.cps.toList.drop 1
  have hl : z.cps.toList.length = z.length := Array.length_toList
  rcases Nat.le_total 1 z.length with h | h
  · rw [Nat.min_eq_left h, List.take_of_length_le (by rw [List.length_drop]; omega)]
  · rw [Nat.min_eq_right h, List.drop_of_length_le (by omega), List.drop_of_length_le (by omega)]
    simp
theorem flat_len {zs : List Str} (h : ∀ z ∈ zs, z.length ≤ 10) : (flatC zs).length ≤ 11 * zs.length := by
  induction zs with
  | nil => exact Nat.zero_le _
  | cons z zs ih =>
    have h1 := h z List.mem_cons_self
    have h2 := ih fun x hx => h x (List.mem_cons_of_mem _ hx)
    show ((44 :: tl z) ++ flatC zs).length ≤ _
    rw [List.length_append, List.length_cons, List.length_cons, ← len_tl]
    omega
theorem flat_take {zs : List Str} {i : Nat} {z : Str} (h : zs[i]? = some z) : flatC (zs.take (i + 1)) = flatC (zs.take i) ++ (44 :: tl z) := by
  rw [List.take_add_one, h]
  unfold flatC
  rw [List.flatMap_append]
  show _ ++ ((44 :: tl z) ++ []) = _
  rw [List.append_nil]
section
variable {P : Program} {w : World} {K : PySem.W.Frag} {mg : Str → Option Value} {base : Heap} {f : Addr} {fd : FuncData}
abbrev s__law_whole : Stmt := top 44
theorem sc__law_whole : FnScope ["_law_thing"] ["_law_thing"] (defScope s__law_whole) := ⟨rfl, rfl, rfl, by decide +kernel, rfl, by decide +kernel, by decide +kernel⟩
theorem ok_lwhole (G : Gz mg) (D : Df K mg "_law_whole" s__law_whole f fd ["_law_thing"]) : Callee P w K mg base CXn 1 "_law_whole" 1 spIsIntegerG := by
  refine D.callee (D.fn.ok sc__law_whole (fun vs H Q E h => ?_) (fun cdv A outer s H vs Q E hr h => ⟨_, PSs.nox (pss_one (ps_ret (L2.pe_and (pe_callB (isiK (K := K) rfl) rfl G.g_isinstance (by rfl) (pa_cons (pv 0) (pa_cons (pe_bltn (v := .ty "int") rfl G.g_int (by rfl) rfl) pa_nil))) (pe_one (pe_not (pe_callB (isiK (K := K) rfl) rfl G.g_isinstance (by rfl) (pa_cons (pv 0) (pa_cons (pe_bltn (v := .ty "bool") rfl G.g_bool (by rfl) rfl) pa_nil)))))))), ?_⟩))
  · obtain ⟨i, rfl, _⟩ := h
    rfl
  · obtain ⟨v, rfl, hv, k⟩ := h
    obtain ⟨t, g⟩ := hv.kin (K := K)
    have q := k H (Ex.refl _)
    refine ⟨_, rfl, v, .ty "int", t, .type "int", isI v || isB v, rfl, .ty _, g.ty, g.int, isI v || isB v, rfl, ?_⟩
    cases hi : isI v with
    | true =>
      have hb := not_both hi
      rw [hi] at q
      exact ⟨_, rfl, v, .ty "bool", t, .type "bool", false, rfl, .ty _, g.ty, hb ▸ g.bool, false, rfl, q⟩
    | false =>
      rw [hi] at q
      cases hb : isB v with
      | true => exact ⟨_, rfl, v, .ty "bool", t, .type "bool", true, rfl, .ty _, g.ty, hb ▸ g.bool, true, rfl, q⟩
      | false => exact q
abbrev s__law_is_name : Stmt := top 45
theorem sc__law_is_name : FnScope ["_law_thing", "_law_sign"] ["_law_thing"] (defScope s__law_is_name) := ⟨rfl, rfl, rfl, by decide +kernel, rfl, by decide +kernel, by decide +kernel⟩
theorem ok_lname (G : Gz mg) (D : Df K mg "_law_is_name" s__law_is_name f fd ["_law_thing"]) : Callee P w K mg base CXn 1 "_law_is_name" 1 spIsNameG := by
  refine D.callee (D.fn.ok sc__law_is_name (fun vs H Q E h => ?_) (fun cdv A outer s H vs Q E hr h => ⟨_, PSs.nox (pss_cons (ps_if (PW.pt (pw_or (pt_not (pt_val (pe_callB (isiK (K := K) rfl) rfl G.g_isinstance (by rfl) (pa_cons (pv 0) (pa_cons (pe_bltn (v := .ty "str") rfl G.g_str (by rfl) rfl) pa_nil))))) (pw_or1 (pt_not (pt_chain op_le op_le pe_int (pe_callB (lenK (K := K) rfl) rfl G.g_len PySem.boot_len (pa_cons (pv 0) pa_nil)) pe_int))))) (pss_one (ps_ret pe_bl)) pss_nil) (pss_one (ps_ret (pe_cmpR op_eq (pe_callB (lenK (K := K) rfl) rfl G.g_len PySem.boot_len (pa_cons (pe_lc (own := [("_law_sign", 1)]) rfl sc__law_is_name.nd (pi_str (pv 0)) (BlkOk.mk (N := ["_law_thing", "_law_sign"]) (sc := defScope s__law_is_name) rfl (by decide +kernel) (by decide +kernel) (by decide +kernel) (by decide +kernel)) (fun _ _ _ _ _ => (pg_name (i := 1) sc__law_is_name.nd rfl (Or.inl rfl))) (fun _ _ _ _ _ => (pts_one (pt_cmpR op_notIn_sign (pv 1) pe_str (by rfl)))) (fun _ _ _ _ _ => (pv 1))) pa_nil)) pe_int (nomark _))))), ?_⟩))
  · obtain ⟨i, rfl, _⟩ := h
    rfl
  · obtain ⟨v, rfl, hv, hz, k⟩ := h
    obtain ⟨t, g⟩ := hv.kin (K := K)
    refine ⟨_, rfl, v, .ty "str", t, .type "str", isS v, rfl, .ty _, g.ty, g.str, isS v, rfl, ?_⟩
    have q0 := k H (Ex.refl _)
    cases v with
    | str z =>
      have hl : LenV K (.str z) H z.length := ⟨Nat.le_trans (hz z rfl) (by decide), rfl⟩
      refine iteF ⟨_, rfl, .str z, z.length, rfl, hl, 1, (z.length : Int), rfl, rfl, decide ((1 : Int) ≤ (z.length : Int)), rfl, ?_⟩
      cases h1 : decide ((1 : Int) ≤ (z.length : Int)) with
      | false =>
        have e : nmB (.str z) = false := by rw [nmB_str, h1]; rfl
        rw [e] at q0
        exact ⟨false, rfl, iteT q0⟩
      | true =>
        refine ⟨(z.length : Int), 10, rfl, rfl, decide ((z.length : Int) ≤ 10), rfl, ?_⟩
        cases h2 : decide ((z.length : Int) ≤ 10) with
        | false =>
          have e : nmB (.str z) = false := by rw [nmB_str, h1, h2]; rfl
          rw [e] at q0
          exact iteT q0
        | true =>
          have e : nmB (.str z) = z.cps.toList.all fun c => lcB c := by rw [nmB_str, h1, h2]; rfl
          rw [e] at k
          refine iteF ?_
          refine ⟨.str z, rfl, z, rfl, fun D hD => ?_⟩
          refine lc_ev (f := fun x => !lcB (sgOf x)) (v := fun x => x) st_s (by rw [chs_len]; have := hz z rfl; omega) (fun x => rfl) hD (fun x hx H1 e Q q => ?_) (fun x _ _ H1 e Q q => ⟨_, rfl, q H1 (Ex.refl _)⟩) (fun H' e hd => ?_)
          · obtain ⟨c, hm, rfl⟩ : ∃ c, c ∈ z.cps.toList ∧ V.str ⟨#[c]⟩ = x := by unfold chs at hx; simpa using hx
            have q1 := q H1 (Ex.refl _)
            refine ⟨_, rfl, c, abc, rfl, rfl, _, rfl, ?_⟩
            rw [abc_iff]
            exact q1
          · refine ⟨.ref D, _, rfl, .inl ⟨_, sq_of hd, rfl⟩, rfl, ?_⟩
            rw [List.length_map, cnt0, chs_all]
            exact k H' e
    | _ => exact iteT q0
abbrev s__law_rises : Stmt := top 46
theorem sc__law_rises : FnScope ["_law_thing", "_law_item", "_law_k"] ["_law_thing"] (defScope s__law_rises) := ⟨rfl, rfl, rfl, by decide +kernel, rfl, by decide +kernel, by decide +kernel⟩
theorem ok_rises (G : Gz mg) (D : Df K mg "_law_rises" s__law_rises f fd ["_law_thing"]) (c__law_is_name : Callee P w K mg base CXn 1 "_law_is_name" 1 spIsNameG) : Callee P w K mg base CXn 2 "_law_rises" 1 spIsTupW := by
  refine D.callee (D.fn.ok sc__law_rises (fun vs H Q E h => ?_) (fun cdv A outer s H vs Q E hr h => ⟨_, PSs.nox (pss_cons (ps_if (PW.pt (pw_or (pt_not (pt_val (pe_callB (isiK (K := K) rfl) rfl G.g_isinstance (by rfl) (pa_cons (pv 0) (pa_cons (pe_bltn (v := .ty "tuple") rfl G.g_tuple (by rfl) rfl) pa_nil))))) (pw_or1 (pt_cmpR op_gt (pe_callB (lenK (K := K) rfl) rfl G.g_len PySem.boot_len (pa_cons (pe_lc (own := [("_law_item", 1)]) rfl sc__law_rises.nd (pi_tup (pv 0)) (BlkOk.mk (N := ["_law_thing", "_law_item", "_law_k"]) (sc := defScope s__law_rises) rfl (by decide +kernel) (by decide +kernel) (by decide +kernel) (by decide +kernel)) (fun _ _ _ _ _ => (pg_name (i := 1) sc__law_rises.nd rfl (Or.inl rfl))) (fun _ _ _ _ _ => (pts_one (pt_not (pt_val (pe_cl (E := En) c__law_is_name (hr.mono (by decide)) rfl passN (pa_cons (pv 1) pa_nil)))))) (fun _ _ _ _ _ => pe_int)) pa_nil)) pe_int (nomark _))))) (pss_one (ps_ret pe_bl)) pss_nil) (pss_one (ps_ret (pe_cmpR op_eq (pe_callB (lenK (K := K) rfl) rfl G.g_len PySem.boot_len (pa_cons (pe_lc (own := [("_law_k", 2)]) rfl sc__law_rises.nd (pi_range1 rfl G.g_range (pa_cons (pe_op op_sub (pe_callB (lenK (K := K) rfl) rfl G.g_len PySem.boot_len (pa_cons (pv 0) pa_nil)) pe_int) pa_nil)) (BlkOk.mk (N := ["_law_thing", "_law_item", "_law_k"]) (sc := defScope s__law_rises) rfl (by decide +kernel) (by decide +kernel) (by decide +kernel) (by decide +kernel)) (fun _ _ _ _ _ => (pg_name (i := 2) sc__law_rises.nd rfl (Or.inl rfl))) (fun _ _ _ _ _ => (pts_one (pt_not (pt_cmpR op_lt_str (pe_ix (ixK (K := K) rfl) (pv 0) (pv 2) (fun _ _ => rfl)) (pe_ix (ixK (K := K) rfl) (pv 0) (pe_op op_add (pv 2) pe_int) (fun _ _ => rfl)) (nomark _))))) (fun _ _ _ _ _ => pe_int)) pa_nil)) pe_int (nomark _))))), ?_⟩))
  · obtain ⟨_, _, _, _, rfl, _⟩ := h
    rfl
  · obtain ⟨p, n, v, d, rfl, hv, k⟩ := h
    obtain ⟨t, g⟩ := hv.pl.kin (K := K)
    refine ⟨_, rfl, v, .ty "tuple", t, .type "tuple", isT H v, rfl, .ty _, g.ty, g.tuple, isT H v, rfl, ?_⟩
    rcases hv.isT with ⟨m', a, xs, ds, _, rfl, np, rfl, ha, l, pr, e⟩ | ⟨e, nt⟩
    rotate_left
    · rw [e]
      have q := k H (Ex.refl _)
      rw [show wdsD d = false by cases d <;> first | rfl | exact absurd rfl (nt _)] at q
      exact iteT q
    rw [e]
    refine iteF ?_
    refine ⟨_, rfl, a, rfl, ⟨_, st_of ha⟩, fun N hN => ?_⟩
    refine lc_ev (f := fun x => !nmB x) (v := fun x => .int 1) (st_t (K := K) (st_of ha)) (by omega) (fun x => rfl) hN (fun x hx H2 e Q q => ?_) (fun x hx _ H2 e Q q => q H2 (Ex.refl _)) (fun H2 e hd => ?_)
    · obtain ⟨i, hi⟩ := List.getElem?_of_mem hx
      obtain ⟨d, _, gx⟩ := prd_at pr hi
      exact ⟨_, rfl, x, rfl, (gx.ex e).pl, gx.nmz, fun H3 e3 => ⟨_, rfl, q H3 e3⟩⟩
    refine ⟨.ref N, _, rfl, .inl ⟨_, sq_of hd, rfl⟩, _, _, rfl, rfl, _, rfl, ?_⟩
    rw [List.length_map]
    have eg := gt0 (fun x => !nmB x) xs
    have ea : (xs.all fun x => !!nmB x) = ds.all nmD := by
      have : (xs.all fun x => !!nmB x) = (xs.map nmB).all id := by
        rw [List.all_map]
        congr 1
        funext x
        show (!!nmB x) = nmB x
        rw [Bool.not_not]
      rw [this, nm_all pr, List.all_map]
      rfl
    rw [ea] at eg
    have ew : wdsD (.tuple ds) = (ds.all nmD && ascS (ds.map stD)) := rfl
    show if decide ((0 : Int) < (((xs.filter fun x => !nmB x).length : Nat) : Int)) = true then _ else _
    rw [eg]
    cases hb : ds.all nmD with
    | false =>
      have q := k _ e
      rw [ew, hb] at q
      exact iteT q
    | true =>
      refine iteF ?_
      have ex := names_at pr hb
      have hl : xs.length = (ds.map stD).length := by rw [ex, List.length_map]
      generalize hzs : ds.map stD = zs at ex hl
      have ha2 := e _ _ ha
      refine ⟨_, rfl, .ref a, xs.length, rfl, .inr ⟨_, st_of ha2, rfl⟩, _, _, rfl, rfl, _, rfl, (by omega), (by omega), fun N2 hN2 => ?_⟩
      have er : (((xs.length : Nat) : Int) - 1).toNat = zs.length - 1 := by omega
      rw [er]
      refine lc_ev (f := fun x => !ltAt zs x) (v := fun x => .int 1) st_r (by rw [List.length_map, List.length_range]; omega) (fun x => rfl) hN2 (fun x hx H3 e3 Q q => ?_) (fun x hx _ H3 e3 Q q => q H3 (Ex.refl _)) (fun H3 e3 hd3 => ?_)
      · obtain ⟨i, hi, rfl⟩ := List.mem_map.mp hx
        have hi2 := List.mem_range.mp hi
        have hz1 : zs[i]? = some zs[i] := List.getElem?_eq_getElem (by omega)
        have hz2 : zs[i + 1]? = some zs[i + 1] := List.getElem?_eq_getElem (by omega)
        have hx1 : xs[i]? = some (.str zs[i]) := by rw [ex, List.getElem?_map, hz1]; rfl
        have hx2 : xs[i + 1]? = some (.str zs[i + 1]) := by rw [ex, List.getElem?_map, hz2]; rfl
        have ha3 := e3 _ _ ha2
        have q1 := q H3 (Ex.refl _)
        have e4 : ltAt zs (.int (0 + (i : Int))) = decide (zs[i].cps.toList < zs[i + 1].cps.toList) := by
          show decide _ = _
          have : (0 + (i : Int)).toNat = i := by omega
          rw [this, getD_of hz1, getD_of hz2]
        rw [e4] at q1
        refine ⟨_, rfl, _, rfl, .inr (.inl ⟨a, xs, _, _, rfl, rfl, st_of ha3, at_of (j := i) (by omega) hx1, _, rfl, _, rfl, _, _, rfl, rfl, .inr (.inl ⟨a, xs, _, _, rfl, rfl, st_of ha3, at_of (j := i + 1) (by omega) hx2, ?_⟩)⟩)⟩
        exact ⟨_, _, rfl, rfl, _, rfl, q1⟩
      refine ⟨.ref N2, _, rfl, .inl ⟨_, sq_of hd3, rfl⟩, rfl, ?_⟩
      rw [List.length_map, cnt0]
      have eq : (((List.range (zs.length - 1)).map fun (i : Nat) => V.int (0 + (i : Int))).all fun x => !!ltAt zs x) = ascS zs := by
        rw [← asc_all, List.all_map, List.all_map, List.all_map]
        congr 1
        funext x
        show (!!ltAt zs (V.int (0 + (x : Int)))) = ltAt zs (V.int (0 + (x : Int)))
        rw [Bool.not_not]
      rw [eq]
      have q := k _ (e.trans e3)
      rw [ew, hb, hzs] at q
      exact q
abbrev s__law_row_text : Stmt := top 49
theorem sc__law_row_text : FnScope ["_law_words", "_law_text_here", "_law_word"] ["_law_words"] (defScope s__law_row_text) := ⟨rfl, rfl, rfl, by decide +kernel, rfl, by decide +kernel, by decide +kernel⟩
theorem ok_row_text (G : Gz mg) (D : Df K mg "_law_row_text" s__law_row_text f fd ["_law_words"]) : Callee P w K mg base CXn 1 "_law_row_text" 1 spRowW := by
  refine D.callee (D.fn.ok sc__law_row_text (fun vs H Q E h => ?_) (fun cdv A outer s H vs Q E hr h => ⟨_, PSs.nox (pss_cons (ps_set (i := 1) sc__law_row_text.nd rfl (Or.inl rfl) pe_str) (pss_cons (ps_for PassesOwn.never rfl (pi_tup (pv 0)) (pg_name (i := 2) sc__law_row_text.nd rfl (Or.inl rfl)) (pss_one (ps_set (i := 1) sc__law_row_text.nd rfl (Or.inl rfl) (pe_op op_add_str (pe_op op_add_str (pv 1) pe_str) (pv 2))))) (pss_one (ps_ret (pe_ifExp (pt_cmpR op_gt (pe_callB (lenK (K := K) rfl) rfl G.g_len PySem.boot_len (pa_cons (pv 0) pa_nil)) pe_int (nomark _)) (pe_slice sl_str (pv 1) (po_some pe_int) po_none) pe_str))))), ?_⟩))
  · obtain ⟨_, _, _, _, rfl, _⟩ := h
    rfl
  · obtain ⟨p, n, v, d, rfl, hv, hw, k⟩ := h
    have q := k H (Ex.refl _)
    match d, hw with
    | .tuple ds, hw =>
      obtain ⟨m, a, xs, _, rfl, np, ha, l, pr⟩ := hv.tups
      have hd : ds.all nmD = true := by
        have hw : (ds.all nmD && ascS (ds.map stD)) = true := hw
        rw [Bool.and_eq_true] at hw
        exact hw.1
      have ex := names_at pr hd
      obtain ⟨_, g⟩ := all_str hd
      have er : rowT (.tuple ds) = if ds = [] then mn1 else Str.join cm1 (ds.map stD) := by
        cases ds with
        | nil => rfl
        | cons x r => rfl
      have dn : ds = [] ↔ ds.map stD = [] := by rw [List.map_eq_nil_iff]
      rw [er] at q
      generalize hzs : ds.map stD = zs at ex g dn q
      have zl : zs.length = xs.length := by rw [ex, List.length_map]
      have g10 : ∀ z ∈ zs, z.length ≤ 10 := fun z hz => (nmS_len (g z hz)).2
      have S := st_t (K := K) (H := H) (a := a) (xs := xs) (st_of ha)
      refine ⟨_, rfl, a, rfl, ⟨_, st_of ha⟩, for_go (n := xs.length) (fun i σ' H' => ∃ acc v2, σ' = [some (.ref a), some (.str acc), v2] ∧ H' = H ∧ tl acc = flatC (zs.take i)) ⟨Str.empty, none, rfl, rfl, rfl⟩ (fun i σ' H' hi ⟨_, _, _, e, _⟩ => e ▸ S.go i H (Ex.refl _) hi) (fun σ' H' ⟨_, _, _, e, _⟩ => e ▸ S.stop H (Ex.refl _)) ?_ ?_⟩
      · rintro i σ' H' x H'' hi ⟨acc, v2, rfl, rfl, ea⟩ y
        obtain ⟨rfl, hx⟩ := S.yld i H' x H'' (Ex.refl _) hi y
        rw [ex, List.getElem?_map] at hx
        obtain ⟨z, hz, rfl⟩ := Option.map_eq_some_iff.mp hx
        have la : acc.length ≤ 22000 := by
          rw [len_tl, ea]
          have := flat_len (zs := zs.take i) fun z hz => g10 z (List.mem_of_mem_take hz)
          have : (zs.take i).length ≤ zs.length := by rw [List.length_take]; omega
          omega
        have lz := g10 z (List.mem_of_getElem? hz)
        have l1 : cm1.length = 1 := by decide +kernel
        have l2 : (acc ++ cm1).length ≤ 22001 := by
          rw [len_tl, tl_append, List.length_append, ← len_tl, ← len_tl]
          omega
        refine ⟨_, rfl, acc, cm1, rfl, rfl, Nat.le_trans (by omega : _ ≤ 22001) (by decide), _, rfl, _, z, rfl, rfl, Nat.le_trans (by omega : _ ≤ 22011) (by decide), acc ++ cm1 ++ z, _, rfl, rfl, ?_⟩
        rw [tl_append, tl_append, ea, flat_take hz, tl_cm, List.append_assoc]
        rfl
      · rintro σ' H' ⟨acc, v2, rfl, rfl, ea⟩
        have et : zs.take xs.length = zs := List.take_of_length_le (by omega)
        rw [et] at ea
        refine ⟨_, rfl, .ref a, xs.length, rfl, .inr ⟨_, st_of ha, rfl⟩, _, _, rfl, rfl, _, rfl, ?_⟩
        refine ite2 (fun h => ?_) (fun h => ?_)
        · have hx : 0 < xs.length := by
            have := of_decide_eq_true h
            omega
          have zn : zs ≠ [] := fun z => by rw [z] at zl; simp at zl; omega
          have la : acc.length ≤ 22000 := by
            rw [len_tl, ea]
            have := flat_len (zs := zs) g10
            omega
          refine ⟨_, rfl, 1, rfl, acc, rfl, Nat.le_trans la (by decide), ?_⟩
          have e : cutS acc (some 1) none = Str.join cm1 zs := ext_tl (by rw [cut1, ea, flat_join zn]; rfl)
          rw [e]
          rw [if_neg (fun z => zn (dn.mp z))] at q
          exact q
        · have hx : xs.length = 0 := by
            have : ¬ ((0 : Int) < (xs.length : Int)) := fun z => h (decide_eq_true z)
            omega
          have zn : zs = [] := List.eq_nil_of_length_eq_zero (by omega)
          rw [if_pos (dn.mpr zn)] at q
          exact q
abbrev s__law_row : Stmt := top 51
theorem sc__law_row : FnScope ["_law_text_here"] ["_law_text_here"] (defScope s__law_row) := ⟨rfl, rfl, rfl, by decide +kernel, rfl, by decide +kernel, by decide +kernel⟩
theorem ok_lrow (G : Gz mg) (D : Df K mg "_law_row" s__law_row f fd ["_law_text_here"]) : Callee P w K mg base CXn 1 "_law_row" 1 spRowOf := by
  refine D.callee (D.fn.ok sc__law_row (fun vs H Q E h => ?_) (fun cdv A outer s H vs Q E hr h => ⟨_, PSs.nox (pss_one (ps_ret (pe_ifExp (pt_cmpR op_eq (pv 0) pe_str (nomark _)) (pe_tup pa_nil) (pe_callTy (tupOfK (K := K) rfl) rfl G.g_tuple (by rfl) (pa_cons (pe_split (pv 0) pe_str) pa_nil))))), ?_⟩))
  · obtain ⟨_, _, rfl, _⟩ := h
    rfl
  · obtain ⟨p, z, rfl, hz, hp, k⟩ := h
    have er : rowD z = if z = mn1 then .tuple [] else .tuple ((Txt.split z cm1).map .str) := rfl
    refine ⟨_, rfl, rfl, _, rfl, ?_⟩
    rw [strE]
    refine ite2 (fun e => ?_) (fun e => ?_)
    · refine ⟨Nat.zero_le _, fun t ht => k _ _ (Ex.new ht) ?_⟩
      rw [er, if_pos (of_decide_eq_true e)]
      exact At.tup (np_new hp (Ex.refl _) ht) upd_same (Nat.zero_le _) .nil
    · refine ⟨_, rfl, ⟨_, rfl⟩, z, cm1, rfl, rfl, cm_len, Nat.le_trans (by omega : _ ≤ 1002) (by decide), fun l hl => ?_⟩
      refine ⟨l, _, rfl, .inl ⟨sq_of upd_same, fun t ht => k _ _ ((Ex.new hl).trans (Ex.new ht)) ?_⟩⟩
      rw [er, if_neg (fun q => e (decide_eq_true q))]
      exact split_at (np_new hp (Ex.new hl) ht) hz upd_same
abbrev s__law_number : Stmt := top 52
theorem sc__law_number : FnScope ["_law_text_here", "_law_sign"] ["_law_text_here"] (defScope s__law_number) := ⟨rfl, rfl, rfl, by decide +kernel, rfl, by decide +kernel, by decide +kernel⟩
def spLNum : Sp := fun vs H Q _ => ∃ z, vs = [.str z] ∧ z.length ≤ 1000 ∧ ∀ v H', Ex H H' → LfD v (numQ z) → Q v H'
theorem ok_lnum (G : Gz mg) (D : Df K mg "_law_number" s__law_number f fd ["_law_text_here"]) : Callee P w K mg base CXn 1 "_law_number" 1 spLNum := by
  refine D.callee (D.fn.ok sc__law_number (fun vs H Q E h => ?_) (fun cdv A outer s H vs Q E hr h => ⟨_, PSs.nox (pss_cons (ps_if (PW.pt (pw_or (pt_not (pt_chain op_le op_le pe_int (pe_callB (lenK (K := K) rfl) rfl G.g_len PySem.boot_len (pa_cons (pv 0) pa_nil)) pe_int)) (pw_or1 (pt_cmpR op_gt (pe_callB (lenK (K := K) rfl) rfl G.g_len PySem.boot_len (pa_cons (pe_lc (own := [("_law_sign", 1)]) rfl sc__law_number.nd (pi_str (pv 0)) (BlkOk.mk (N := ["_law_text_here", "_law_sign"]) (sc := defScope s__law_number) rfl (by decide +kernel) (by decide +kernel) (by decide +kernel) (by decide +kernel)) (fun _ _ _ _ _ => (pg_name (i := 1) sc__law_number.nd rfl (Or.inl rfl))) (fun _ _ _ _ _ => (pts_one (pt_cmpR op_notIn_sign (pv 1) pe_str (by rfl)))) (fun _ _ _ _ _ => (pv 1))) pa_nil)) pe_int (nomark _))))) (pss_one (ps_ret pe_non)) pss_nil) (pss_one (ps_ret (pe_callTy call_int_str rfl G.g_int (by rfl) (pa_cons (pv 0) pa_nil))))), ?_⟩))
  · obtain ⟨_, rfl, _⟩ := h
    rfl
  · obtain ⟨z, rfl, hz, k⟩ := h
    have hl : LenV K (.str z) H z.length := ⟨Nat.le_trans hz (by decide), rfl⟩
    have ed : dig4 z = (decide (1 ≤ (z.length : Int)) && (decide ((z.length : Int) ≤ 4) && z.cps.toList.all fun c => dgB c)) := rfl
    have no : dig4 z = false → ∀ H', Ex H H' → Q .non H' := fun h H' e => k _ H' e (by unfold numQ; rw [h]; rfl)
    refine ⟨_, rfl, .str z, z.length, rfl, hl, 1, (z.length : Int), rfl, rfl, decide ((1 : Int) ≤ (z.length : Int)), rfl, ?_⟩
    cases h1 : decide ((1 : Int) ≤ (z.length : Int)) with
    | false => exact ⟨false, rfl, iteT (no (by rw [ed, h1]; rfl) H (Ex.refl _))⟩
    | true =>
      refine ⟨(z.length : Int), 4, rfl, rfl, decide ((z.length : Int) ≤ 4), rfl, ?_⟩
      cases h2 : decide ((z.length : Int) ≤ 4) with
      | false => exact iteT (no (by rw [ed, h1, h2]; rfl) H (Ex.refl _))
      | true =>
        refine iteF ?_
        refine ⟨.str z, rfl, z, rfl, fun D hD => ?_⟩
        refine lc_ev (f := fun x => !dgB (sgOf x)) (v := fun x => x) st_s (by rw [chs_len]; omega) (fun x => rfl) hD (fun x hx H1 e Q q => ?_) (fun x _ _ H1 e Q q => ⟨_, rfl, q H1 (Ex.refl _)⟩) (fun H' e hd => ?_)
        · obtain ⟨c, hm, rfl⟩ : ∃ c, c ∈ z.cps.toList ∧ V.str ⟨#[c]⟩ = x := by unfold chs at hx; simpa using hx
          have q1 := q H1 (Ex.refl _)
          refine ⟨_, rfl, c, dig10, rfl, rfl, _, rfl, ?_⟩
          rw [dig_iff]
          exact q1
        · refine ⟨.ref D, _, rfl, .inl ⟨_, sq_of hd, rfl⟩, _, _, rfl, rfl, _, rfl, ?_⟩
          rw [List.length_map]
          show if decide ((0 : Int) < ((((chs z).filter fun x => !dgB (sgOf x)).length : Nat) : Int)) = true then _ else _
          rw [gt0, chs_all]
          cases h3 : z.cps.toList.all fun c => dgB c with
          | false => exact iteT (no (by rw [ed, h1, h2, h3]; rfl) H' e)
          | true =>
            have hd4 : dig4 z = true := by rw [ed, h1, h2, h3]; rfl
            refine iteF ⟨_, rfl, z, _, rfl, dig_int hd4, by have := (dig_all hd4).2.2; omega, k _ H' e ?_⟩
            unfold numQ
            rw [if_pos hd4]
            rfl
end
end WK

set_option Elab.async false
set_option linter.all false
set_option maxRecDepth 100000
set_option maxHeartbeats 4000000
/-! ==, !=, in of data whose texts may hold any signs. -/
namespace WW
open PySem PySem.Spec PyProof.Rows L2
/-- no dict within, not too deep -/
def okP (d : PyData) : Bool := d.plain && decide (d.depth ≤ 60)
section
variable {X : Cx}
def rEqP (K : PySem.W.Frag) : R2 := fun x y H Q => ∃ d e, Dp K H x d ∧ Dp K H y e ∧ okP d = true ∧ okP e = true ∧ Q (.bl (PyData.eqv d e)) H
def rNeP (K : PySem.W.Frag) : R2 := fun x y H Q => ∃ d e, Dp K H x d ∧ Dp K H y e ∧ okP d = true ∧ okP e = true ∧ Q (.bl (!PyData.eqv d e)) H
def rInP (K : PySem.W.Frag) : R2 := fun x y H Q => ∃ d ds, Dp K H x d ∧ Dp K H y (.list ds) ∧ okP d = true ∧ okP (.list ds) = true ∧ Q (.bl (ds.any fun z => PyData.eqv z d)) H
theorem okP_p {d : PyData} (h : okP d = true) : d.plain = true ∧ d.depth ≤ 60 := by
  unfold okP at h
  rw [Bool.and_eq_true, decide_eq_true_eq] at h
  exact h
theorem op_eqP (hu : X.A.units + 64 < cLine) : OpR X (compareOp .Eq) (rEqP X.K) := by
  intro pins s σ H x y v u Q I rx ry h
  obtain ⟨d, e, hd, he, sd, se, q⟩ := h
  obtain ⟨as, r1⟩ := Dp.reads I d x v hd rx
  obtain ⟨bs, r2⟩ := Dp.reads I e y u he ry
  have h1 := (okP_p sd).2
  have h2 : min d.depth e.depth ≤ d.depth := Nat.min_le_left _ _
  exact SeqAt.eq_plain r1 r2 (okP_p sd).1 (okP_p se).1 (by omega) ⟨.bl _, H, I, rfl, q⟩
theorem op_neP (hu : X.A.units + 64 < cLine) : OpR X (compareOp .NotEq) (rNeP X.K) := by
  intro pins s σ H x y v u Q I rx ry h
  obtain ⟨d, e, hd, he, sd, se, q⟩ := h
  obtain ⟨as, r1⟩ := Dp.reads I d x v hd rx
  obtain ⟨bs, r2⟩ := Dp.reads I e y u he ry
  have h1 := (okP_p sd).2
  have h2 : min d.depth e.depth ≤ d.depth := Nat.min_le_left _ _
  exact SeqAt.ne_plain r1 r2 (okP_p sd).1 (okP_p se).1 (by omega) ⟨.bl _, H, I, rfl, q⟩
theorem op_inP (hu : X.A.units + 64 < cLine) : OpR X (compareOp .In) (rInP X.K) := by
  intro pins s σ H x y v u Q I rx ry h
  obtain ⟨d, ds, hd, he, sd, se, q⟩ := h
  obtain ⟨as, r1⟩ := Dp.reads I d x v hd rx
  obtain ⟨bs, r2⟩ := Dp.reads I (.list ds) y u he ry
  have h1 := (okP_p sd).2
  have h2 : min (PyData.depthAll ds) d.depth ≤ d.depth := Nat.min_le_right _ _
  exact SeqAt.in_list_data r2 r1 (okP_p se).1 (okP_p sd).1 (by omega) ⟨.bl _, H, I, rfl, q⟩
end
end WW

set_option Elab.async false
set_option linter.all false
set_option maxRecDepth 100000
set_option maxHeartbeats 4000000
namespace WK
open PySem PySem.Spec PyProof.Rows L2 WW Evl TL
theorem LfD.pln {v : V} {d : PyData} (h : LfD v d) : d.plain = true ∧ d.depth = 0 := by
  cases v with
  | non => cases h; exact ⟨rfl, rfl⟩
  | bl b => cases h; exact ⟨rfl, rfl⟩
  | int i => cases h; exact ⟨rfl, rfl⟩
  | str z => obtain ⟨rfl, _⟩ := h; exact ⟨rfl, rfl⟩
  | _ => exact h.elim
theorem pln_all {k : Nat} {F : V → PyData → Prop} (f : ∀ v d, F v d → d.plain = true ∧ d.depth ≤ k) : ∀ {xs : List V} {ds : List PyData}, Paired F xs ds → PyData.plainAll ds = true ∧ PyData.depthAll ds ≤ k
  | _, _, .nil => ⟨rfl, Nat.zero_le _⟩
  | _, _, .cons (b := d) g t => by
    obtain ⟨h1, h2⟩ := f _ _ g
    obtain ⟨h3, h4⟩ := pln_all f t
    refine ⟨by rw [PyData.plainAll, h1, h3]; rfl, ?_⟩
    rw [PyData.depthAll]
    omega
theorem At.pln {p : Addr} {H : Hp} : ∀ {n : Nat} {v : V} {d : PyData}, At p n H v d → d.plain = true ∧ d.depth ≤ n
  | 0, _, _, h => ⟨(LfD.pln h).1, by rw [(LfD.pln h).2]; exact Nat.le_refl _⟩
  | n + 1, _, _, h => by
    rcases h with h | ⟨a, xs, ds, rfl, _, ⟨_, rfl⟩ | ⟨_, rfl⟩, _, q⟩
    · exact ⟨h.pln.1, by rw [h.pln.2]; exact Nat.zero_le _⟩
    · obtain ⟨h1, h2⟩ := pln_all (fun _ _ z => At.pln z) q
      exact ⟨h1, by rw [PyData.depth]; omega⟩
    · obtain ⟨h1, h2⟩ := pln_all (fun _ _ z => At.pln z) q
      exact ⟨h1, by rw [PyData.depth]; omega⟩
theorem At.okp {p : Addr} {n : Nat} {H : Hp} {v : V} {d : PyData} (h : At p n H v d) (l : n ≤ 60) : okP d = true := by
  obtain ⟨h1, h2⟩ := h.pln
  unfold okP
  rw [h1, decide_eq_true (Nat.le_trans h2 l)]
  rfl
theorem eqv_refl {d : PyData} (h : okP d = true) : PyData.eqv d d = true := SeqAt.eqv_refl_plain d (okP_p h).1
theorem eqvA_str : ∀ xs ys : List Str, PyData.eqvAll (xs.map PyData.str) (ys.map PyData.str) = decide (xs = ys)
  | [], [] => by simp [PyData.eqvAll]
  | [], _ :: _ => by simp [PyData.eqvAll]
  | _ :: _, [] => by simp [PyData.eqvAll]
  | x :: xs, y :: ys => by
    rw [List.map_cons, List.map_cons, PyData.eqvAll, eqvA_str xs ys, PyData.eqv, Bool.eq_iff_iff]
    simp
theorem eqvL_str (xs ys : List Str) : PyData.eqv (.list (xs.map PyData.str)) (.list (ys.map PyData.str)) = decide (xs = ys) := by
  rw [PyData.eqv, eqvA_str]
theorem plnA_str : ∀ xs : List Str, PyData.plainAll (xs.map PyData.str) = true ∧ PyData.depthAll (xs.map PyData.str) = 0
  | [] => ⟨rfl, rfl⟩
  | x :: xs => by
    obtain ⟨h1, h2⟩ := plnA_str xs
    refine ⟨by rw [List.map_cons, PyData.plainAll, h1]; rfl, ?_⟩
    rw [List.map_cons, PyData.depthAll, h2]
    rfl
theorem okP_strs (xs : List Str) : okP (.list (xs.map PyData.str)) = true := by
  obtain ⟨h1, h2⟩ := plnA_str xs
  unfold okP
  rw [show (PyData.list (xs.map PyData.str)).plain = true from h1, decide_eq_true (by rw [PyData.depth, h2]; decide)]
  rfl
theorem dpA_str {K : PySem.W.Frag} {H : Hp} : ∀ xs : List Str, DpAll K H (xs.map V.str) (xs.map PyData.str)
  | [] => .nil
  | x :: xs => .cons (.str x) (dpA_str xs)
theorem dp_strs {K : PySem.W.Frag} {H : Hp} {l : Addr} {xs : List Str} (h : H l = some (.lst (xs.map V.str))) : Dp K H (.ref l) (.list (xs.map PyData.str)) := .lst (sq_of h) (dpA_str xs)
theorem neq {x y : Str} {A B : Prop} (n : x ≠ y) (b : B) : if decide (V.str x = V.str y) = true then A else B := by
  rw [if_neg]
  · exact b
  · rw [strE]
    exact fun z => n (of_decide_eq_true z)
theorem yeq {x : Str} {A B : Prop} (b : A) : if decide (V.str x = V.str x) = true then A else B := by
  rw [if_pos (decide_eq_true rfl)]
  exact b
theorem tl_jn4 (a b c d : Str) : tl (Str.join sp1 [a, b, c, d]) = tl a ++ 32 :: (tl b ++ 32 :: (tl c ++ 32 :: tl d)) := by
  rw [tl_join, tl_sp]
  rfl
theorem tl_jn3 (a b c : Str) : tl (Str.join sp1 [a, b, c]) = tl a ++ 32 :: (tl b ++ 32 :: tl c) := by
  rw [tl_join, tl_sp]
  rfl
theorem tl_jn2 (a b : Str) : tl (Str.join sp1 [a, b]) = tl a ++ 32 :: tl b := by
  rw [tl_join, tl_sp]
  rfl
section
variable {P : Program} {w : World} {K : PySem.W.Frag} {mg : Str → Option Value} {base : Heap} {f : Addr} {fd : FuncData}
abbrev s__law_text : Stmt := top 50
theorem sc__law_text : FnScope ["_law_wish"] ["_law_wish"] (defScope s__law_text) := ⟨rfl, rfl, rfl, by decide +kernel, rfl, by decide +kernel, by decide +kernel⟩
def spLText : Sp := fun vs H Q _ => ∃ p n v d, vs = [v] ∧ At p n H v d ∧ formD d = true ∧ ∀ H', Ex H H' → Q (.str (textD d)) H'
theorem ok_ltext (G : Gz mg) (D : Df K mg "_law_text" s__law_text f fd ["_law_wish"]) (c__law_row_text : Callee P w K mg base CXn 1 "_law_row_text" 1 spRowW) : Callee P w K mg base CXn 2 "_law_text" 1 spLText := by
  refine D.callee (D.fn.ok sc__law_text (fun vs H Q E h => ?_) (fun cdv A outer s H vs Q E hr h => ⟨_, PSs.nox (pss_cons (ps_if (pt_cmpR op_eq (pe_ix (ixK (K := K) rfl) (pv 0) pe_int (fun _ _ => rfl)) pe_str (nomark _)) (pss_one (ps_ret pe_str)) pss_nil) (pss_cons (ps_if (pt_cmpR op_eq (pe_ix (ixK (K := K) rfl) (pv 0) pe_int (fun _ _ => rfl)) pe_str (nomark _)) (pss_one (ps_ret (pe_op op_add_str (pe_op op_add_str (pe_op op_add_str pe_str (pe_ix (ixK (K := K) rfl) (pv 0) pe_int (fun _ _ => rfl))) pe_str) (pe_callTy call_str_int rfl G.g_str (by rfl) (pa_cons (pe_ix (ixK (K := K) rfl) (pv 0) pe_int (fun _ _ => rfl)) pa_nil))))) pss_nil) (pss_cons (ps_if (pt_cmpR op_eq (pe_ix (ixK (K := K) rfl) (pv 0) pe_int (fun _ _ => rfl)) pe_str (nomark _)) (pss_one (ps_ret (pe_op op_add_str (pe_op op_add_str (pe_op op_add_str pe_str (pe_ix (ixK (K := K) rfl) (pv 0) pe_int (fun _ _ => rfl))) pe_str) (pe_callTy call_str_int rfl G.g_str (by rfl) (pa_cons (pe_ix (ixK (K := K) rfl) (pv 0) pe_int (fun _ _ => rfl)) pa_nil))))) pss_nil) (pss_cons (ps_if (pt_cmpR op_eq (pe_ix (ixK (K := K) rfl) (pv 0) pe_int (fun _ _ => rfl)) pe_str (nomark _)) (pss_one (ps_ret (pe_op op_add_str (pe_op op_add_str pe_str (pe_ix (ixK (K := K) rfl) (pv 0) pe_int (fun _ _ => rfl))) (pe_ix (ixK (K := K) rfl) (pe_lst (pa_cons pe_str (pa_cons pe_str pa_nil))) (pe_callTy call_int1 rfl G.g_int (by rfl) (pa_cons (pe_ix (ixK (K := K) rfl) (pv 0) pe_int (fun _ _ => rfl)) pa_nil)) (fun _ _ => rfl))))) pss_nil) (pss_one (ps_ret (pe_op op_add_str (pe_op op_add_str (pe_op op_add_str pe_str (pe_cl (E := En) c__law_row_text (hr.mono (by decide)) rfl passN (pa_cons (pe_ix (ixK (K := K) rfl) (pv 0) pe_int (fun _ _ => rfl)) pa_nil))) pe_str) (pe_cl (E := En) c__law_row_text (hr.mono (by decide)) rfl passN (pa_cons (pe_ix (ixK (K := K) rfl) (pv 0) pe_int (fun _ _ => rfl)) pa_nil))))))))), ?_⟩))
  · obtain ⟨_, _, _, _, rfl, _⟩ := h
    rfl
  · obtain ⟨p, n, v, d, rfl, hv, hf, q⟩ := h
    have q0 := q H (Ex.refl _)
    have big : ∀ {k : Nat}, k ≤ 90000 → k ≤ sizeLine := fun h => Nat.le_trans h (by decide)
    have lit : ∀ x ∈ (["told ", " within ", "warned ", " ahead ", "hidden ", " jointly", "sure ", " by ", ""] : List Str), x.length ≤ 10 := by decide +kernel
    have al : ∀ x y : Str, (x ++ y).length = x.length + y.length := fun x y => by rw [len_tl, tl_append, List.length_append, ← len_tl, ← len_tl]
    rcases form_cases hf with rfl | ⟨z, i, hd, hz, i0, i1⟩ | ⟨z, b, rfl, hz⟩ | ⟨x, y, rfl, hx, hy⟩
    · obtain ⟨m, a, xs, _, rfl, np, ha, l, pr⟩ := hv.tups
      match xs, pr with
      | [u], .cons g .nil =>
        obtain ⟨rfl, _⟩ := g.strs
        refine ⟨_, rfl, .inr (.inl ⟨a, _, 0, _, rfl, rfl, st_of ha, rfl, rfl, _, rfl, ?_⟩)⟩
        exact yeq q0
    · have hz2 := (nmS_len hz).2
      have hn : (toString i : Str).length ≤ 4 := numT_len i0 i1
      have walk : ∀ f, d = .tuple [.str f, .str z, .int i] → ∃ a, v = .ref a ∧ H a = some (.tup [.str f, .str z, .int i]) := fun f e => by
        subst e
        obtain ⟨m, a, xs, _, rfl, np, ha, l, pr⟩ := hv.tups
        match xs, pr with
        | [u1, u2, u3], .cons g1 (.cons g2 (.cons g3 .nil)) =>
          obtain ⟨rfl, _⟩ := g1.strs
          obtain ⟨rfl, _⟩ := g2.strs
          cases g3.ints
          exact ⟨a, rfl, ha⟩
      rcases hd with hd | hd
      · obtain ⟨a, rfl, ha⟩ := walk _ hd
        have at0 : ∀ {R : VK}, R (.str tTold) H → rIx K (.ref a) (.int 0) H R := fun {R} q => .inr (.inl ⟨a, _, 0, _, rfl, rfl, st_of ha, rfl, q⟩)
        refine ⟨_, rfl, at0 ⟨rfl, _, rfl, neq (by decide +kernel) ?_⟩⟩
        refine ⟨_, rfl, at0 ⟨rfl, _, rfl, yeq ?_⟩⟩
        have e : (("told " : Str) ++ z ++ " within ") ++ toString i = textD d := by
          rw [hd]
          refine ext_tl ?_
          show _ = tl (Str.join sp1 (partsD (.tuple [.str tTold, .str z, .int i])))
          rw [parts_told, tl_jn4, tl_append, tl_append, tl_append, show tl ("told " : Str) = tl tTold ++ [32] by decide +kernel, show tl (" within " : Str) = 32 :: (tl tWithin ++ [32]) by decide +kernel]
          simp only [List.append_assoc, List.cons_append, List.nil_append]
          rfl
        have l1 := lit "told " (by simp)
        have l2 := lit " within " (by simp)
        refine ⟨_, rfl, .inr (.inl ⟨a, _, 1, _, rfl, rfl, st_of ha, rfl, _, z, rfl, rfl, big (by omega), _, _, rfl, rfl, big (by rw [al]; omega), _, rfl, .inr (.inl ⟨a, _, 2, _, rfl, rfl, st_of ha, rfl, i, rfl, int_log i0 i1, _, _, rfl, rfl, big (by rw [al, al]; omega), ?_⟩)⟩)⟩
        rw [e]
        exact q0
      · obtain ⟨a, rfl, ha⟩ := walk _ hd
        have at0 : ∀ {R : VK}, R (.str tWarned) H → rIx K (.ref a) (.int 0) H R := fun {R} q => .inr (.inl ⟨a, _, 0, _, rfl, rfl, st_of ha, rfl, q⟩)
        refine ⟨_, rfl, at0 ⟨rfl, _, rfl, neq (by decide +kernel) ?_⟩⟩
        refine ⟨_, rfl, at0 ⟨rfl, _, rfl, neq (by decide +kernel) ?_⟩⟩
        refine ⟨_, rfl, at0 ⟨rfl, _, rfl, yeq ?_⟩⟩
        have e : (("warned " : Str) ++ z ++ " ahead ") ++ toString i = textD d := by
          rw [hd]
          refine ext_tl ?_
          show _ = tl (Str.join sp1 (partsD (.tuple [.str tWarned, .str z, .int i])))
          rw [parts_warned, tl_jn4, tl_append, tl_append, tl_append, show tl ("warned " : Str) = tl tWarned ++ [32] by decide +kernel, show tl (" ahead " : Str) = 32 :: (tl tAhead ++ [32]) by decide +kernel]
          simp only [List.append_assoc, List.cons_append, List.nil_append]
          rfl
        have l1 := lit "warned " (by simp)
        have l2 := lit " ahead " (by simp)
        refine ⟨_, rfl, .inr (.inl ⟨a, _, 1, _, rfl, rfl, st_of ha, rfl, _, z, rfl, rfl, big (by omega), _, _, rfl, rfl, big (by rw [al]; omega), _, rfl, .inr (.inl ⟨a, _, 2, _, rfl, rfl, st_of ha, rfl, i, rfl, int_log i0 i1, _, _, rfl, rfl, big (by rw [al, al]; omega), ?_⟩)⟩)⟩
        rw [e]
        exact q0
    · obtain ⟨m, a, xs, _, rfl, np, ha, l, pr⟩ := hv.tups
      have hz2 := (nmS_len hz).2
      match xs, pr with
      | [u1, u2, u3], .cons g1 (.cons g2 (.cons g3 .nil)) =>
        obtain ⟨rfl, _⟩ := g1.strs
        obtain ⟨rfl, _⟩ := g2.strs
        cases g3.bools
        have at0 : ∀ {R : VK}, R (.str tHidden) H → rIx K (.ref a) (.int 0) H R := fun {R} q => .inr (.inl ⟨a, _, 0, _, rfl, rfl, st_of ha, rfl, q⟩)
        refine ⟨_, rfl, at0 ⟨rfl, _, rfl, neq (by decide +kernel) ?_⟩⟩
        refine ⟨_, rfl, at0 ⟨rfl, _, rfl, neq (by decide +kernel) ?_⟩⟩
        refine ⟨_, rfl, at0 ⟨rfl, _, rfl, neq (by decide +kernel) ?_⟩⟩
        refine ⟨_, rfl, at0 ⟨rfl, _, rfl, yeq ?_⟩⟩
        have l1 := lit "hidden " (by simp)
        have l2 := lit " jointly" (by simp)
        have l3 := lit "" (by simp)
        refine ⟨_, rfl, .inr (.inl ⟨a, _, 1, _, rfl, rfl, st_of ha, rfl, _, z, rfl, rfl, big (by omega), ?_⟩)⟩
        refine ⟨(by show 2 ≤ sizeLine; decide), fun l9 hl => ?_⟩
        have e1 : Ex H (upd H l9 (.lst [.str "", .str " jointly"])) := Ex.new hl
        refine ⟨_, rfl, .inr (.inl ⟨a, _, 2, _, rfl, rfl, st_of (e1 _ _ ha), rfl, .inr ⟨b, rfl, ?_⟩⟩)⟩
        cases b with
        | true =>
          have e : (("hidden " : Str) ++ z) ++ " jointly" = textD (.tuple [.str tHidden, .str z, .bool true]) := by
            refine ext_tl ?_
            show _ = tl (Str.join sp1 (partsD (.tuple [.str tHidden, .str z, .bool true])))
            rw [parts_hidden, if_pos rfl, tl_jn3, tl_append, tl_append, show tl ("hidden " : Str) = tl tHidden ++ [32] by decide +kernel, show tl (" jointly" : Str) = 32 :: tl tJointly by decide +kernel]
            simp only [List.append_assoc, List.cons_append, List.nil_append]
            rfl
          refine .inl ⟨l9, _, 1, .str " jointly", rfl, rfl, sq_of upd_same, rfl, _, _, rfl, rfl, big (by rw [al]; omega), ?_⟩
          rw [e]
          exact q _ e1
        | false =>
          have e : (("hidden " : Str) ++ z) ++ "" = textD (.tuple [.str tHidden, .str z, .bool false]) := by
            refine ext_tl ?_
            show _ = tl (Str.join sp1 (partsD (.tuple [.str tHidden, .str z, .bool false])))
            rw [parts_hidden, if_neg (by decide), tl_jn2, tl_append, tl_append, show tl ("hidden " : Str) = tl tHidden ++ [32] by decide +kernel, show tl ("" : Str) = [] by decide +kernel]
            simp only [List.append_assoc, List.cons_append, List.nil_append, List.append_nil]
            rfl
          refine .inl ⟨l9, _, 0, .str "", rfl, rfl, sq_of upd_same, rfl, _, _, rfl, rfl, big (by rw [al]; omega), ?_⟩
          rw [e]
          exact q _ e1
    · obtain ⟨m, a, xs, _, rfl, np, ha, l, pr⟩ := hv.tups
      match xs, pr with
      | [u1, u2, u3], .cons g1 (.cons g2 (.cons g3 .nil)) =>
        obtain ⟨rfl, _⟩ := g1.strs
        have at0 : ∀ {R : VK}, R (.str tSure) H → rIx K (.ref a) (.int 0) H R := fun {R} q => .inr (.inl ⟨a, _, 0, _, rfl, rfl, st_of ha, rfl, q⟩)
        refine ⟨_, rfl, at0 ⟨rfl, _, rfl, neq (by decide +kernel) ?_⟩⟩
        refine ⟨_, rfl, at0 ⟨rfl, _, rfl, neq (by decide +kernel) ?_⟩⟩
        refine ⟨_, rfl, at0 ⟨rfl, _, rfl, neq (by decide +kernel) ?_⟩⟩
        refine ⟨_, rfl, at0 ⟨rfl, _, rfl, neq (by decide +kernel) ?_⟩⟩
        have l1 := lit "sure " (by simp)
        have l2 := lit " by " (by simp)
        have hx2 := rowT_len hx g2.rowN
        have hy2 := rowT_len hy g3.rowN
        have e : (("sure " : Str) ++ rowT y ++ " by ") ++ rowT x = textD (.tuple [.str tSure, x, y]) := by
          refine ext_tl ?_
          show _ = tl (Str.join sp1 (partsD (.tuple [.str tSure, x, y])))
          rw [parts_sure, tl_jn4, tl_append, tl_append, tl_append, show tl ("sure " : Str) = tl tSure ++ [32] by decide +kernel, show tl (" by " : Str) = 32 :: (tl tBy ++ [32]) by decide +kernel]
          simp only [List.append_assoc, List.cons_append, List.nil_append]
        refine ⟨_, rfl, .inr (.inl ⟨a, _, 2, _, rfl, rfl, st_of ha, rfl, p, m, u3, y, rfl, g3, hy, fun H2 e2 => ⟨_, _, rfl, rfl, big (by omega), _, _, rfl, rfl, big (by rw [al]; omega), ?_⟩⟩)⟩
        refine ⟨_, rfl, .inr (.inl ⟨a, _, 1, _, rfl, rfl, st_of (e2 _ _ ha), rfl, p, m, u2, x, rfl, g2.ex e2, hx, fun H3 e3 => ⟨_, _, rfl, rfl, big (by rw [al, al]; omega), ?_⟩⟩)⟩
        rw [e]
        exact q _ (e2.trans e3)
end
end WK

set_option Elab.async false
set_option linter.all false
set_option maxRecDepth 100000
set_option maxHeartbeats 4000000
namespace WK
open PySem PySem.Spec PyProof.Rows L2 WW Evl TL
section
variable {P : Program} {w : World} {K : PySem.W.Frag} {mg : Str → Option Value} {base : Heap} {f : Addr} {fd : FuncData}
abbrev s__law_meant : Stmt := top 53
theorem sc__law_meant : FnScope ["_law_text_here", "_law_parts"] ["_law_text_here"] (defScope s__law_meant) := ⟨rfl, rfl, rfl, by decide +kernel, rfl, by decide +kernel, by decide +kernel⟩
def spMeant : Sp := fun vs H Q _ => ∃ p t, vs = [.str t] ∧ t.length ≤ 1000 ∧ H p ≠ none ∧ ∀ v H', Ex H H' → At p 2 H' v (raw numQ (Txt.split t sp1)) → Q v H'
theorem ok_meant (G : Gz mg) (D : Df K mg "_law_meant" s__law_meant f fd ["_law_text_here"]) (c__law_number : Callee P w K mg base CXn 1 "_law_number" 1 spLNum) (c__law_row : Callee P w K mg base CXn 1 "_law_row" 1 spRowOf) : Callee P w K mg base CXn 2 "_law_meant" 1 spMeant := by
  refine D.callee (D.fn.ok sc__law_meant (fun vs H Q E h => ?_) (fun cdv A outer s H vs Q E hr h => ⟨_, PSs.nox (pss_cons (ps_set (i := 1) sc__law_meant.nd rfl (Or.inl rfl) (pe_split (pv 0) pe_str)) (pss_cut (ps_if (pt_cmpR (op_eqP hr.units) (pv 1) (pe_lst (pa_cons pe_str pa_nil)) (nomark _)) (pss_one (ps_ret (pe_tup (pa_cons pe_str pa_nil)))) pss_nil) (pss_cut (ps_if (PW.pt (pw_and (pt_cmpR op_eq (pe_callB (lenK (K := K) rfl) rfl G.g_len PySem.boot_len (pa_cons (pv 1) pa_nil)) pe_int (nomark _)) (pw_and1 (pt_cmpR (op_inP hr.units) (pe_lst (pa_cons (pe_ix (ixK (K := K) rfl) (pv 1) pe_int (fun _ _ => rfl)) (pa_cons (pe_ix (ixK (K := K) rfl) (pv 1) pe_int (fun _ _ => rfl)) pa_nil))) (pe_lst (pa_cons (pe_lst (pa_cons pe_str (pa_cons pe_str pa_nil))) (pa_cons (pe_lst (pa_cons pe_str (pa_cons pe_str pa_nil))) pa_nil))) (by rfl))))) (pss_one (ps_ret (pe_tup (pa_cons (pe_ix (ixK (K := K) rfl) (pv 1) pe_int (fun _ _ => rfl)) (pa_cons (pe_ix (ixK (K := K) rfl) (pv 1) pe_int (fun _ _ => rfl)) (pa_cons (pe_cl (E := En) c__law_number (hr.mono (by decide)) rfl passN (pa_cons (pe_ix (ixK (K := K) rfl) (pv 1) pe_int (fun _ _ => rfl)) pa_nil)) pa_nil)))))) pss_nil) (pss_cut (ps_if (PW.pt (pw_and (pt_cmpR op_eq (pe_callB (lenK (K := K) rfl) rfl G.g_len PySem.boot_len (pa_cons (pv 1) pa_nil)) pe_int (nomark _)) (pw_and1 (pt_cmpR (op_eqP hr.units) (pe_lst (pa_cons (pe_ix (ixK (K := K) rfl) (pv 1) pe_int (fun _ _ => rfl)) (pa_cons (pe_ix (ixK (K := K) rfl) (pv 1) pe_int (fun _ _ => rfl)) pa_nil))) (pe_lst (pa_cons pe_str (pa_cons pe_str pa_nil))) (nomark _))))) (pss_one (ps_ret (pe_tup (pa_cons pe_str (pa_cons (pe_cl (E := En) c__law_row (hr.mono (by decide)) rfl passN (pa_cons (pe_ix (ixK (K := K) rfl) (pv 1) pe_int (fun _ _ => rfl)) pa_nil)) (pa_cons (pe_cl (E := En) c__law_row (hr.mono (by decide)) rfl passN (pa_cons (pe_ix (ixK (K := K) rfl) (pv 1) pe_int (fun _ _ => rfl)) pa_nil)) pa_nil)))))) pss_nil) (pss_cut (ps_if (PW.pt (pw_and (pt_cmpR op_eq (pe_ix (ixK (K := K) rfl) (pv 1) pe_int (fun _ _ => rfl)) pe_str (nomark _)) (pw_and1 (pt_cmpR op_eq (pe_callB (lenK (K := K) rfl) rfl G.g_len PySem.boot_len (pa_cons (pv 1) pa_nil)) pe_int (nomark _))))) (pss_one (ps_ret (pe_tup (pa_cons pe_str (pa_cons (pe_ix (ixK (K := K) rfl) (pv 1) pe_int (fun _ _ => rfl)) (pa_cons pe_bl pa_nil)))))) pss_nil) (pss_cut (ps_if (PW.pt (pw_and (pt_cmpR op_eq (pe_ix (ixK (K := K) rfl) (pv 1) pe_int (fun _ _ => rfl)) pe_str (nomark _)) (pw_and (pt_cmpR op_eq (pe_callB (lenK (K := K) rfl) rfl G.g_len PySem.boot_len (pa_cons (pv 1) pa_nil)) pe_int (nomark _)) (pw_and1 (pt_cmpR op_eq (pe_ix (ixK (K := K) rfl) (pv 1) pe_int (fun _ _ => rfl)) pe_str (nomark _)))))) (pss_one (ps_ret (pe_tup (pa_cons pe_str (pa_cons (pe_ix (ixK (K := K) rfl) (pv 1) pe_int (fun _ _ => rfl)) (pa_cons pe_bl pa_nil)))))) pss_nil) (pss_one (ps_ret pe_non)))))))), ?_⟩))
  · obtain ⟨_, _, rfl, _⟩ := h
    rfl
  · obtain ⟨p, t, rfl, tl1, hp0, k0⟩ := h
    refine ⟨_, rfl, ⟨_, rfl⟩, t, sp1, rfl, rfl, sp_len, Nat.le_trans (by omega : _ ≤ 1002) (by decide), fun a ha0 => ?_⟩
    have hz : ∀ x ∈ Txt.split t sp1, x.length ≤ 1000 := fun x hx => Nat.le_trans (split_part hx) tl1
    have hne := split_ne t sp1
    have hps : (Txt.split t sp1).length ≤ 2000 := by have := split_le t sp1; omega
    have ha : upd H a (.lst ((Txt.split t sp1).map V.str)) a = some (.lst ((Txt.split t sp1).map V.str)) := upd_same
    have k : ∀ v H', Ex (upd H a (.lst ((Txt.split t sp1).map V.str))) H' → At p 2 H' v (raw numQ (Txt.split t sp1)) → Q v H' := fun v H' e => k0 v H' ((Ex.new ha0).trans e)
    have hp : upd H a (.lst ((Txt.split t sp1).map V.str)) p ≠ none := by
      rw [upd_ne (fun z => hp0 (by rw [z]; exact ha0))]
      exact hp0
    generalize upd H a (.lst ((Txt.split t sp1).map V.str)) = H0 at ha k hp
    generalize Txt.split t sp1 = ps at hz hne hps ha k
    clear k0 hp0 ha0
    obtain ⟨x, r, rfl⟩ : ∃ x r, ps = x :: r := by cases ps with | nil => exact absurd rfl hne | cons x r => exact ⟨x, r, rfl⟩
    have it : ∀ {i : Nat} {y : Str}, (x :: r)[i]? = some y → atI ((x :: r).map V.str) ((i : Nat) : Int) = some (.str y) := fun {i y} h => atI_nat (by rw [List.getElem?_map, h]; rfl)
    have kn : ∀ {i : Nat} {y : Str}, (x :: r)[i]? = some y → y.length ≤ 1000 := fun h => hz _ (List.mem_of_getElem? h)
    have hpx : ∀ {H' : Hp}, Ex H0 H' → H' p ≠ none := fun {H'} e => by
      cases h : H0 p with
      | none => exact absurd h hp
      | some o => rw [e _ _ h]; exact fun z => nomatch z
    have at_ : ∀ {H' : Hp} (i : Nat) {y : Str} {R : VK}, Ex H0 H' → (x :: r)[i]? = some y → R (.str y) H' → rIx K (.ref a) (.int (i : Nat)) H' R := fun {H'} i {y R} e h q => .inl ⟨a, _, ((i : Nat) : Int), .str y, rfl, rfl, sq_of (e _ _ ha), it h, q⟩
    have len_ : ∀ {H' : Hp}, Ex H0 H' → LenV K (.ref a) H' (x :: r).length := fun e => .inl ⟨_, sq_of (e _ _ ha), by rw [List.length_map]⟩
    let σ0 : L2.St := [some (.str t), some (.ref a)]
    -- kept
    refine ⟨fun σ' H' => σ' = [some (.str t), some (.ref a)] ∧ Ex H0 H' ∧ ¬ (x = tKept ∧ r = []), ?_, ?_⟩
    · refine ⟨_, rfl, (by show 1 ≤ sizeLine; decide), fun l hl => ?_⟩
      have e1 : Ex H0 (upd H0 l (.lst [.str tKept])) := Ex.new hl
      refine ⟨_, _, dp_strs (e1 _ _ ha), dp_strs (xs := [tKept]) upd_same, okP_strs _, okP_strs _, _, rfl, ?_⟩
      rw [eqvL_str]
      refine ite2 (fun h => ?_) (fun h => ⟨rfl, e1, fun z => h (decide_eq_true (by rw [z.1, z.2]))⟩)
      have h := of_decide_eq_true h
      injection h with h1 h2
      subst h1 h2
      refine ⟨(by show 1 ≤ sizeLine; decide), fun u hu => k _ _ (e1.trans (Ex.new hu)) ?_⟩
      rw [raw1, if_pos rfl]
      exact At.up (At.tup (np_new hp e1 hu) upd_same (by show 1 ≤ 2000; decide) (.cons (At.leaf (LfD.str (by decide +kernel))) .nil))
    rintro σ1 H1 ⟨rfl, e1, n1⟩
    -- told, warned
    refine ⟨fun σ' H' => σ' = [some (.str t), some (.ref a)] ∧ Ex H0 H' ∧ ¬ ((x :: r).length = 4 ∧ ((x = tTold ∧ r[1]? = some tWithin) ∨ (x = tWarned ∧ r[1]? = some tAhead))), ?_, ?_⟩
    · refine ⟨_, rfl, .ref a, _, rfl, len_ e1, rfl, _, rfl, ?_⟩
      rw [intE]
      refine ite2 (fun h4 => ?_) (fun h4 => ⟨rfl, e1, fun z => h4 (decide_eq_true (by rw [z.1]; rfl))⟩)
      have h4 := of_decide_eq_true h4
      have h3 : r.length = 3 := by rw [List.length_cons] at h4; omega
      obtain ⟨y, z, u, rfl⟩ : ∃ y z u, r = [y, z, u] := by
        match r, h3 with
        | [y, z, u], _ => exact ⟨y, z, u, rfl⟩
      refine ⟨_, rfl, at_ 0 e1 rfl ⟨_, rfl, at_ 2 e1 rfl ⟨(by show 2 ≤ sizeLine; decide), fun l1 hl1 => ?_⟩⟩⟩
      have q1 : Ex H1 (upd H1 l1 (.lst [.str x, .str z])) := Ex.new hl1
      have w1 : upd H1 l1 (.lst [.str x, .str z]) l1 = some (.lst [.str x, .str z]) := upd_same
      generalize upd H1 l1 (.lst [.str x, .str z]) = H2 at q1 w1
      refine ⟨(by show 2 ≤ sizeLine; decide), fun l2 hl2 => ?_⟩
      have q2 : Ex H2 (upd H2 l2 (.lst [.str tTold, .str tWithin])) := Ex.new hl2
      have w2 : upd H2 l2 (.lst [.str tTold, .str tWithin]) l2 = some (.lst [.str tTold, .str tWithin]) := upd_same
      generalize upd H2 l2 (.lst [.str tTold, .str tWithin]) = H3 at q2 w2
      refine ⟨(by show 2 ≤ sizeLine; decide), fun l3 hl3 => ?_⟩
      have q3 : Ex H3 (upd H3 l3 (.lst [.str tWarned, .str tAhead])) := Ex.new hl3
      have w3 : upd H3 l3 (.lst [.str tWarned, .str tAhead]) l3 = some (.lst [.str tWarned, .str tAhead]) := upd_same
      generalize upd H3 l3 (.lst [.str tWarned, .str tAhead]) = H4 at q3 w3
      refine ⟨(by show 2 ≤ sizeLine; decide), fun l4 hl4 => ?_⟩
      have q4 : Ex H4 (upd H4 l4 (.lst [.ref l2, .ref l3])) := Ex.new hl4
      have w4 : upd H4 l4 (.lst [.ref l2, .ref l3]) l4 = some (.lst [.ref l2, .ref l3]) := upd_same
      generalize upd H4 l4 (.lst [.ref l2, .ref l3]) = H5 at q4 w4
      have E5 : Ex H0 H5 := e1.trans (q1.trans (q2.trans (q3.trans q4)))
      refine ⟨_, [.list ([tTold, tWithin].map .str), .list ([tWarned, tAhead].map .str)], dp_strs (xs := [x, z]) ((q2.trans (q3.trans q4)) _ _ w1), .lst (sq_of w4) (.cons (dp_strs (xs := [tTold, tWithin]) ((q3.trans q4) _ _ w2)) (.cons (dp_strs (xs := [tWarned, tAhead]) (q4 _ _ w3)) .nil)), okP_strs _, by decide +kernel, _, rfl, ?_⟩
      have ea : ([.list ([tTold, tWithin].map .str), .list ([tWarned, tAhead].map .str)] : List PyData).any (fun d => PyData.eqv d (.list ([x, z].map .str))) = (decide (x = tTold ∧ z = tWithin) || decide (x = tWarned ∧ z = tAhead)) := by
        show (PyData.eqv (.list ([tTold, tWithin].map .str)) (.list ([x, z].map .str)) || (PyData.eqv (.list ([tWarned, tAhead].map .str)) (.list ([x, z].map .str)) || false)) = _
        rw [eqvL_str, eqvL_str, Bool.or_false]
        congr 1
        · rw [decide_eq_decide]
          exact ⟨fun h => by injection h with h1 h; injection h with h2 h; exact ⟨h1.symm, h2.symm⟩, fun h => by rw [h.1, h.2]⟩
        · rw [decide_eq_decide]
          exact ⟨fun h => by injection h with h1 h; injection h with h2 h; exact ⟨h1.symm, h2.symm⟩, fun h => by rw [h.1, h.2]⟩
      rw [ea]
      refine ite2 (fun h => ?_) (fun h => ⟨rfl, E5, fun n => ?_⟩)
      · have c : (x = tTold ∧ z = tWithin) ∨ (x = tWarned ∧ z = tAhead) := by
          rcases Bool.or_eq_true_iff.mp h with h | h
          · exact .inl (of_decide_eq_true h)
          · exact .inr (of_decide_eq_true h)
        refine ⟨_, rfl, at_ 0 E5 rfl ⟨_, rfl, at_ 1 E5 rfl ⟨_, rfl, at_ 3 E5 rfl ⟨u, rfl, kn (i := 3) rfl, fun v H6 e6 hv => ⟨(by show 3 ≤ sizeLine; decide), fun b hb => k _ _ (E5.trans (e6.trans (Ex.new hb))) ?_⟩⟩⟩⟩⟩
        rw [raw4, if_pos c]
        exact At.up (At.tup (np_new hp (E5.trans e6) hb) upd_same (by show 3 ≤ 2000; decide) (.cons (At.leaf (LfD.st (kn (i := 0) rfl))) (.cons (At.leaf (LfD.st (kn (i := 1) rfl))) (.cons (At.leaf hv) .nil))))
      · refine h (Bool.or_eq_true_iff.mpr ?_)
        rcases n.2 with ⟨h1, h2⟩ | ⟨h1, h2⟩
        · exact .inl (decide_eq_true ⟨h1, Option.some.inj h2⟩)
        · exact .inr (decide_eq_true ⟨h1, Option.some.inj h2⟩)
    rintro σ2 H2 ⟨rfl, e2, n2⟩
    -- sure
    refine ⟨fun σ' H' => σ' = [some (.str t), some (.ref a)] ∧ Ex H0 H' ∧ ¬ ((x :: r).length = 4 ∧ x = tSure ∧ r[1]? = some tBy), ?_, ?_⟩
    · refine ⟨_, rfl, .ref a, _, rfl, len_ e2, rfl, _, rfl, ?_⟩
      rw [intE]
      refine ite2 (fun h4 => ?_) (fun h4 => ⟨rfl, e2, fun z => h4 (decide_eq_true (by rw [z.1]; rfl))⟩)
      have h4 := of_decide_eq_true h4
      have h3 : r.length = 3 := by rw [List.length_cons] at h4; omega
      obtain ⟨y, z, u, rfl⟩ : ∃ y z u, r = [y, z, u] := by
        match r, h3 with
        | [y, z, u], _ => exact ⟨y, z, u, rfl⟩
      refine ⟨_, rfl, at_ 0 e2 rfl ⟨_, rfl, at_ 2 e2 rfl ⟨(by show 2 ≤ sizeLine; decide), fun l1 hl1 => ?_⟩⟩⟩
      have q1 : Ex H2 (upd H2 l1 (.lst [.str x, .str z])) := Ex.new hl1
      have w1 : upd H2 l1 (.lst [.str x, .str z]) l1 = some (.lst [.str x, .str z]) := upd_same
      generalize upd H2 l1 (.lst [.str x, .str z]) = H3 at q1 w1
      refine ⟨(by show 2 ≤ sizeLine; decide), fun l2 hl2 => ?_⟩
      have q2 : Ex H3 (upd H3 l2 (.lst [.str tSure, .str tBy])) := Ex.new hl2
      have w2 : upd H3 l2 (.lst [.str tSure, .str tBy]) l2 = some (.lst [.str tSure, .str tBy]) := upd_same
      generalize upd H3 l2 (.lst [.str tSure, .str tBy]) = H4 at q2 w2
      have E4 : Ex H0 H4 := e2.trans (q1.trans q2)
      refine ⟨_, _, dp_strs (xs := [x, z]) (q2 _ _ w1), dp_strs (xs := [tSure, tBy]) w2, okP_strs _, okP_strs _, _, rfl, ?_⟩
      rw [eqvL_str]
      refine ite2 (fun h => ?_) (fun h => ⟨rfl, E4, fun n => h (decide_eq_true (by rw [n.2.1, Option.some.inj n.2.2]))⟩)
      have h := of_decide_eq_true h
      injection h with c1 h
      injection h with c2 h
      refine ⟨_, rfl, at_ 3 E4 rfl ⟨p, u, rfl, kn (i := 3) rfl, hpx E4, fun v H5 e5 hv => ?_⟩⟩
      have E5 := E4.trans e5
      refine ⟨_, rfl, at_ 1 E5 rfl ⟨p, y, rfl, kn (i := 1) rfl, hpx E5, fun v2 H6 e6 hv2 => ?_⟩⟩
      refine ⟨(by show 3 ≤ sizeLine; decide), fun b hb => k _ _ (E5.trans (e6.trans (Ex.new hb))) ?_⟩
      rw [raw4, if_neg (by rintro (⟨z1, _⟩ | ⟨z1, _⟩) <;> rw [c1] at z1 <;> exact absurd z1 (by decide +kernel)), if_pos ⟨c1, c2⟩]
      exact At.tup (np_new hp (E5.trans e6) hb) upd_same (by show 3 ≤ 2000; decide) (.cons (At.leaf (LfD.str (by decide +kernel))) (.cons ((hv.ex e6).ex (Ex.new hb)) (.cons (hv2.ex (Ex.new hb)) .nil)))
    rintro σ3 H3 ⟨rfl, e3, n3⟩
    -- hidden
    refine ⟨fun σ' H' => σ' = [some (.str t), some (.ref a)] ∧ H' = H3 ∧ ¬ (x = tHidden ∧ r.length = 1), ?_, ?_⟩
    · refine ⟨_, rfl, at_ 0 e3 rfl ⟨rfl, _, rfl, ?_⟩⟩
      rw [strE]
      refine ite2 (fun h1 => ?_) (fun h1 => ⟨rfl, rfl, fun z => h1 (decide_eq_true z.1)⟩)
      refine ⟨_, rfl, .ref a, _, rfl, len_ e3, rfl, _, rfl, ?_⟩
      rw [intE]
      refine ite2 (fun h2 => ?_) (fun h2 => ⟨rfl, rfl, fun z => h2 (decide_eq_true (by rw [List.length_cons, z.2]; rfl))⟩)
      have h2 := of_decide_eq_true h2
      obtain ⟨y, rfl⟩ : ∃ y, r = [y] := by
        rw [List.length_cons] at h2
        match r, (show r.length = 1 by omega) with
        | [y], _ => exact ⟨y, rfl⟩
      refine ⟨_, rfl, at_ 1 e3 rfl ⟨(by show 3 ≤ sizeLine; decide), fun b hb => k _ _ (e3.trans (Ex.new hb)) ?_⟩⟩
      rw [raw2, if_pos (of_decide_eq_true h1)]
      exact At.up (At.tup (np_new hp e3 hb) upd_same (by show 3 ≤ 2000; decide) (.cons (At.leaf (LfD.str (by decide +kernel))) (.cons (At.leaf (LfD.st (kn (i := 1) rfl))) (.cons (At.leaf rfl) .nil))))
    rintro σ4 H4 ⟨rfl, rfl, n4⟩
    refine ⟨fun σ' H' => σ' = [some (.str t), some (.ref a)] ∧ H' = H4 ∧ ¬ (x = tHidden ∧ ∃ y, r = [y, tJointly]), ?_, ?_⟩
    · refine ⟨_, rfl, at_ 0 e3 rfl ⟨rfl, _, rfl, ?_⟩⟩
      rw [strE]
      refine ite2 (fun h1 => ?_) (fun h1 => ⟨rfl, rfl, fun z => h1 (decide_eq_true z.1)⟩)
      refine ⟨_, rfl, .ref a, _, rfl, len_ e3, rfl, _, rfl, ?_⟩
      rw [intE]
      refine ite2 (fun h2 => ?_) (fun h2 => ⟨rfl, rfl, fun z => h2 (decide_eq_true (by obtain ⟨_, y, rfl⟩ := z; rfl))⟩)
      have h2 := of_decide_eq_true h2
      obtain ⟨y, z, rfl⟩ : ∃ y z, r = [y, z] := by
        rw [List.length_cons] at h2
        match r, (show r.length = 2 by omega) with
        | [y, z], _ => exact ⟨y, z, rfl⟩
      refine ⟨_, rfl, at_ 2 e3 rfl ⟨rfl, _, rfl, ?_⟩⟩
      rw [strE]
      refine ite2 (fun h3 => ?_) (fun h3 => ⟨rfl, rfl, fun n => h3 (decide_eq_true (by obtain ⟨_, y', e⟩ := n; injection e with _ e; injection e with e _))⟩)
      refine ⟨_, rfl, at_ 1 e3 rfl ⟨(by show 3 ≤ sizeLine; decide), fun b hb => k _ _ (e3.trans (Ex.new hb)) ?_⟩⟩
      rw [raw3, if_pos ⟨of_decide_eq_true h1, of_decide_eq_true h3⟩]
      exact At.up (At.tup (np_new hp e3 hb) upd_same (by show 3 ≤ 2000; decide) (.cons (At.leaf (LfD.str (by decide +kernel))) (.cons (At.leaf (LfD.st (kn (i := 1) rfl))) (.cons (At.leaf rfl) .nil))))
    rintro σ5 H5 ⟨rfl, rfl, n5⟩
    refine k _ _ e3 ?_
    have e : raw numQ (x :: r) = .none := by
      match r with
      | [] => rw [raw1, if_neg (fun z => n1 ⟨z, rfl⟩)]
      | [y] => rw [raw2, if_neg (fun z => n4 ⟨z, rfl⟩)]
      | [y, z] => rw [raw3, if_neg (fun q => n5 ⟨q.1, y, by rw [q.2]⟩)]
      | [y, z, u] =>
        rw [raw4, if_neg, if_neg]
        · exact fun q => n3 ⟨rfl, q.1, by rw [q.2]; rfl⟩
        · rintro (⟨q1, q2⟩ | ⟨q1, q2⟩)
          · exact n2 ⟨rfl, .inl ⟨q1, by rw [q2]; rfl⟩⟩
          · exact n2 ⟨rfl, .inr ⟨q1, by rw [q2]; rfl⟩⟩
      | _ :: _ :: _ :: _ :: _ => rfl
    rw [e]
    exact At.leaf rfl
end
end WK

set_option Elab.async false
set_option linter.all false
set_option maxRecDepth 100000
set_option maxHeartbeats 4000000
namespace WK
open PySem PySem.Spec PyProof.Rows L2 WW Evl TL
theorem At.nones {p : Addr} {n : Nat} {H : Hp} {v : V} (h : At p n H v .none) : v = .non := by
  rcases h.el with h | ⟨m, a, xs, ds, _, rfl, _, ⟨_, e⟩ | ⟨_, e⟩, _⟩
  · cases v with
    | str y => exact nomatch h.1
    | non => rfl
    | bl b => cases h
    | int i => cases h
    | _ => exact h.elim
  · cases e
  · cases e
/-- what is asked by its form -/
def LFm (d : PyData) : Prop := d = .none ∨ d = .tuple [.str tKept] ∨ ∃ f a m, d = .tuple [.str f, a, m] ∧ (f = tTold ∨ f = tWarned ∨ (f = tHidden ∧ flagD m = true) ∨ f = tSure)
theorem raw_lfm (ps : List Str) : LFm (raw numQ ps) := by
  match ps with
  | [] => exact .inl rfl
  | [a] =>
    rw [raw1]
    split
    · exact .inr (.inl rfl)
    · exact .inl rfl
  | [a, b] =>
    rw [raw2]
    split
    · exact .inr (.inr ⟨_, _, _, rfl, .inr (.inr (.inl ⟨rfl, rfl⟩))⟩)
    · exact .inl rfl
  | [a, b, c] =>
    rw [raw3]
    split
    · exact .inr (.inr ⟨_, _, _, rfl, .inr (.inr (.inl ⟨rfl, rfl⟩))⟩)
    · exact .inl rfl
  | [a, b, c, d] =>
    rw [raw4]
    split
    · rename_i h
      refine .inr (.inr ⟨_, _, _, rfl, ?_⟩)
      rcases h with h | h
      · exact .inl h.1
      · exact .inr (.inl h.1)
    · split
      · exact .inr (.inr ⟨_, _, _, rfl, .inr (.inr (.inr rfl))⟩)
      · exact .inl rfl
  | _ :: _ :: _ :: _ :: _ :: _ => exact .inl rfl
theorem form_head {x : PyData} {r : List PyData} (h : formD (.tuple (x :: r)) = true) : ∃ f, x = .str f := by
  rcases form_cases h with e | ⟨z, i, e | e, _⟩ | ⟨z, b, e, _⟩ | ⟨a, m, e, _⟩ <;> (injection e with e; injection e with e1 e2; exact ⟨_, e1⟩)
theorem eqv_kept (f : Str) (r : List PyData) (h : f = tKept ∨ r.length ≠ 2) : PyData.eqv (.tuple (.str f :: r)) (.tuple [.str tKept]) = formD (.tuple (.str f :: r)) := by
  match r with
  | [] =>
    show PyData.eqv (.tuple [.str f]) (.tuple [.str tKept]) = decide (f = tKept)
    rw [PyData.eqv, PyData.eqvAll, PyData.eqvAll, PyData.eqv, Bool.and_true, Bool.eq_iff_iff]
    simp
  | [a] =>
    rw [PyData.eqv, PyData.eqvAll, PyData.eqvAll, Bool.and_false]
    rfl
  | [a, m] =>
    rcases h with rfl | h
    · rw [PyData.eqv, PyData.eqvAll, PyData.eqvAll, Bool.and_false, formD3, show (strD tTold (.str tKept) || strD tWarned (.str tKept)) = false by decide +kernel, show strD tHidden (.str tKept) = false by decide +kernel, show strD tSure (.str tKept) = false by decide +kernel]
      rfl
    · exact absurd rfl h
  | a :: b :: c :: r =>
    rw [PyData.eqv, PyData.eqvAll, PyData.eqvAll, Bool.and_false]
    rfl
theorem isI_dec {v : V} : (isI v && true) = isI v := by cases isI v <;> rfl
theorem cnt_of {p : Addr} {n : Nat} {H : Hp} {v : V} {d : PyData} (h : At p n H v d) (e : isI v = false) : cntD d = false := by
  rw [← h.cnt]
  exact inB_no e
section
variable {P : Program} {w : World} {K : PySem.W.Frag} {mg : Str → Option Value} {base : Heap} {f : Addr} {fd : FuncData}
abbrev s__law_is_form : Stmt := top 54
theorem sc__law_is_form : FnScope ["_law_wish"] ["_law_wish"] (defScope s__law_is_form) := ⟨rfl, rfl, rfl, by decide +kernel, rfl, by decide +kernel, by decide +kernel⟩
def spLForm : Sp := fun vs H Q _ => ∃ p n v d, vs = [v] ∧ At p n H v d ∧ LFm d ∧ ∀ H', Ex H H' → Q (.bl (formD d)) H'
theorem ok_lform (G : Gz mg) (D : Df K mg "_law_is_form" s__law_is_form f fd ["_law_wish"]) (c__law_rises : Callee P w K mg base CXn 2 "_law_rises" 1 spIsTupW) (c__law_is_name : Callee P w K mg base CXn 1 "_law_is_name" 1 spIsNameG) (c__law_whole : Callee P w K mg base CXn 1 "_law_whole" 1 spIsIntegerG) : Callee P w K mg base CXn 3 "_law_is_form" 1 spLForm := by
  refine D.callee (D.fn.ok sc__law_is_form (fun vs H Q E h => ?_) (fun cdv A outer s H vs Q E hr h => ⟨_, PSs.nox (pss_cons (ps_if (pt_cmpR op_isN (pv 0) pe_non (nomark _)) (pss_one (ps_ret pe_bl)) pss_nil) (pss_cons (ps_if (pt_cmpR op_eq (pe_ix (ixK (K := K) rfl) (pv 0) pe_int (fun _ _ => rfl)) pe_str (nomark _)) (pss_one (ps_ret pe_bl)) pss_nil) (pss_cons (ps_if (pt_cmpR op_eq (pe_ix (ixK (K := K) rfl) (pv 0) pe_int (fun _ _ => rfl)) pe_str (nomark _)) (pss_one (ps_ret (L2.pe_and (pe_cl (E := En) c__law_rises (hr.mono (by decide)) rfl passN (pa_cons (pe_ix (ixK (K := K) rfl) (pv 0) pe_int (fun _ _ => rfl)) pa_nil)) (pe_one (pe_cl (E := En) c__law_rises (hr.mono (by decide)) rfl passN (pa_cons (pe_ix (ixK (K := K) rfl) (pv 0) pe_int (fun _ _ => rfl)) pa_nil)))))) pss_nil) (pss_cons (ps_if (pt_not (pt_val (pe_cl (E := En) c__law_is_name (hr.mono (by decide)) rfl passN (pa_cons (pe_ix (ixK (K := K) rfl) (pv 0) pe_int (fun _ _ => rfl)) pa_nil)))) (pss_one (ps_ret pe_bl)) pss_nil) (pss_one (ps_ret (L2.pe_or (pe_cmpR op_eq (pe_ix (ixK (K := K) rfl) (pv 0) pe_int (fun _ _ => rfl)) pe_str (nomark _)) (pe_one (L2.pe_and (pe_cl (E := En) c__law_whole (hr.mono (by decide)) rfl passN (pa_cons (pe_ix (ixK (K := K) rfl) (pv 0) pe_int (fun _ _ => rfl)) pa_nil)) (pe_one (pe_chain op_le op_le pe_int (pe_ix (ixK (K := K) rfl) (pv 0) pe_int (fun _ _ => rfl)) pe_int))))))))))), ?_⟩))
  · obtain ⟨_, _, _, _, rfl, _⟩ := h
    rfl
  · obtain ⟨p, n, v, d, rfl, hv, lf, k⟩ := h
    have q0 := k H (Ex.refl _)
    rcases lf with rfl | rfl | ⟨g, x, m, rfl, hg⟩
    · cases hv.nones
      exact ⟨_, rfl, rfl, _, rfl, iteT q0⟩
    · obtain ⟨m, a, xs, _, rfl, np, ha, l, pr⟩ := hv.tups
      match xs, pr with
      | [u], .cons gu .nil =>
        obtain ⟨rfl, _⟩ := gu.strs
        refine ⟨_, rfl, rfl, _, rfl, ite2 (fun h => nomatch (of_decide_eq_true h : V.ref a = V.non)) (fun _ => ?_)⟩
        refine ⟨_, rfl, .inr (.inl ⟨a, _, 0, _, rfl, rfl, st_of ha, rfl, rfl, _, rfl, yeq ?_⟩)⟩
        exact q0
    · obtain ⟨k', a, xs, _, rfl, np, ha, l, pr⟩ := hv.tups
      match xs, pr with
      | [u1, u2, u3], .cons g1 (.cons g2 (.cons g3 .nil)) =>
        obtain ⟨rfl, _⟩ := g1.strs
        have at0 : ∀ {R : VK}, R (.str g) H → rIx K (.ref a) (.int 0) H R := fun {R} q => .inr (.inl ⟨a, _, 0, _, rfl, rfl, st_of ha, rfl, q⟩)
        have nk : g ≠ tKept := by rcases hg with rfl | rfl | ⟨rfl, _⟩ | rfl <;> decide +kernel
        refine ⟨_, rfl, rfl, _, rfl, ite2 (fun h => nomatch (of_decide_eq_true h : V.ref a = V.non)) (fun _ => ?_)⟩
        refine ⟨_, rfl, at0 ⟨rfl, _, rfl, neq nk ?_⟩⟩
        by_cases hs : g = tSure
        · subst hs
          rw [form_sure] at k
          refine ⟨_, rfl, at0 ⟨rfl, _, rfl, yeq ?_⟩⟩
          refine ⟨_, rfl, .inr (.inl ⟨a, _, 1, _, rfl, rfl, st_of ha, rfl, p, k', u2, x, rfl, g2, fun H1 e1 => ⟨_, rfl, ?_⟩⟩)⟩
          cases h1 : wdsD x with
          | false =>
            have q := k H1 e1
            rw [h1] at q
            exact q
          | true =>
            refine ⟨_, rfl, .inr (.inl ⟨a, _, 2, _, rfl, rfl, st_of (e1 _ _ ha), rfl, p, k', u3, m, rfl, g3.ex e1, fun H2 e2 => ?_⟩)⟩
            have q := k H2 (e1.trans e2)
            rw [h1] at q
            exact q
        · refine ⟨_, rfl, at0 ⟨rfl, _, rfl, neq hs ?_⟩⟩
          have ef : formD (.tuple [.str g, x, m]) = (nmD x && (decide (g = tHidden) || cntD m)) := by
            rcases hg with rfl | rfl | ⟨rfl, fl⟩ | rfl
            · rw [form_told, decide_eq_false (by decide +kernel), Bool.false_or]
            · rw [form_warned, decide_eq_false (by decide +kernel), Bool.false_or]
            · rw [form_hidden, fl, decide_eq_true rfl, Bool.true_or]
            · exact absurd rfl hs
          rw [ef] at k
          refine ⟨_, rfl, .inr (.inl ⟨a, _, 1, _, rfl, rfl, st_of ha, rfl, u2, rfl, g2.pl, g2.nmz, fun H1 e1 => ⟨_, rfl, ?_⟩⟩)⟩
          rw [g2.nm]
          cases h1 : nmD x with
          | false =>
            have q := k H1 e1
            rw [h1] at q
            exact iteT q
          | true =>
            refine iteF ?_
            rw [h1] at k
            have ha1 := e1 _ _ ha
            refine ⟨_, rfl, .inr (.inl ⟨a, _, 0, _, rfl, rfl, st_of ha1, rfl, rfl, _, rfl, ?_⟩)⟩
            rw [strE]
            cases h2 : decide (g = tHidden) with
            | true =>
              have q := k H1 e1
              rw [h2] at q
              exact q
            | false =>
              rw [h2] at k
              refine ⟨_, rfl, .inr (.inl ⟨a, _, 2, _, rfl, rfl, st_of ha1, rfl, u3, rfl, (g3.ex e1).pl, fun H2 e2 => ⟨_, rfl, ?_⟩⟩)⟩
              have q := k H2 (e1.trans e2)
              cases h3 : isI u3 with
              | false =>
                rw [cnt_of g3 h3] at q
                exact q
              | true =>
                obtain ⟨i, rfl⟩ : ∃ i, u3 = .int i := by cases u3 <;> first | exact ⟨_, rfl⟩ | exact nomatch (show false = true from h3)
                have ec : cntD m = (decide (0 ≤ i) && decide (i ≤ 1000)) := by
                  rw [← g3.cnt]
                  show (decide (0 ≤ i) && decide (i < 1001)) = _
                  congr 1
                  rw [decide_eq_decide]
                  omega
                rw [ec] at q
                refine ⟨_, rfl, .inr (.inl ⟨a, _, 2, _, rfl, rfl, st_of (e2 _ _ ha1), rfl, 0, i, rfl, rfl, decide ((0 : Int) ≤ i), rfl, ?_⟩)⟩
                cases h4 : decide ((0 : Int) ≤ i) with
                | false =>
                  rw [h4] at q
                  exact q
                | true =>
                  rw [h4] at q
                  exact ⟨i, 1000, rfl, rfl, q⟩
abbrev s__law_is_any : Stmt := top 55
theorem sc__law_is_any : FnScope ["_law_thing"] ["_law_thing"] (defScope s__law_is_any) := ⟨rfl, rfl, rfl, by decide +kernel, rfl, by decide +kernel, by decide +kernel⟩
theorem ok_lany (G : Gz mg) (D : Df K mg "_law_is_any" s__law_is_any f fd ["_law_thing"]) (c__law_is_form : Callee P w K mg base CXn 3 "_law_is_form" 1 spLForm) : Callee P w K mg base CXn 4 "_law_is_any" 1 (fun vs H Q _ => ∃ p n v d, vs = [v] ∧ At p n H v d ∧ n ≤ 60 ∧ ∀ H', Ex H H' → Q (.bl (formD d)) H') := by
  refine D.callee (D.fn.ok sc__law_is_any (fun vs H Q E h => ?_) (fun cdv A outer s H vs Q E hr h => ⟨_, PSs.nox (pss_cons (ps_if (PW.pt (pw_or (pt_not (pt_val (pe_callB (isiK (K := K) rfl) rfl G.g_isinstance (by rfl) (pa_cons (pv 0) (pa_cons (pe_bltn (v := .ty "tuple") rfl G.g_tuple (by rfl) rfl) pa_nil))))) (pw_or (pt_cmpR op_eq (pe_callB (lenK (K := K) rfl) rfl G.g_len PySem.boot_len (pa_cons (pv 0) pa_nil)) pe_int (nomark _)) (pw_or1 (pt_not (pt_val (pe_callB (isiK (K := K) rfl) rfl G.g_isinstance (by rfl) (pa_cons (pe_ix (ixK (K := K) rfl) (pv 0) pe_int (fun _ _ => rfl)) (pa_cons (pe_bltn (v := .ty "str") rfl G.g_str (by rfl) rfl) pa_nil))))))))) (pss_one (ps_ret pe_bl)) pss_nil) (pss_cons (ps_if (PW.pt (pw_or (pt_cmpR op_eq (pe_ix (ixK (K := K) rfl) (pv 0) pe_int (fun _ _ => rfl)) pe_str (nomark _)) (pw_or1 (pt_cmpR op_ne (pe_callB (lenK (K := K) rfl) rfl G.g_len PySem.boot_len (pa_cons (pv 0) pa_nil)) pe_int (nomark _))))) (pss_one (ps_ret (pe_cmpR (op_eqP hr.units) (pv 0) (pe_tup (pa_cons pe_str pa_nil)) (nomark _)))) pss_nil) (pss_cons (ps_if (pt_cmpR (notInK (K := K) rfl) (pe_ix (ixK (K := K) rfl) (pv 0) pe_int (fun _ _ => rfl)) (pe_lst (pa_cons pe_str (pa_cons pe_str (pa_cons pe_str (pa_cons pe_str pa_nil))))) (by rfl)) (pss_one (ps_ret pe_bl)) pss_nil) (pss_cons (ps_if (PW.pt (pw_and (pt_cmpR op_eq (pe_ix (ixK (K := K) rfl) (pv 0) pe_int (fun _ _ => rfl)) pe_str (nomark _)) (pw_and1 (pt_not (pt_val (pe_callB (isiK (K := K) rfl) rfl G.g_isinstance (by rfl) (pa_cons (pe_ix (ixK (K := K) rfl) (pv 0) pe_int (fun _ _ => rfl)) (pa_cons (pe_bltn (v := .ty "bool") rfl G.g_bool (by rfl) rfl) pa_nil)))))))) (pss_one (ps_ret pe_bl)) pss_nil) (pss_one (ps_ret (pe_cl (E := En) c__law_is_form (hr.mono (by decide)) rfl passN (pa_cons (pv 0) pa_nil)))))))), ?_⟩))
  · obtain ⟨_, _, _, _, rfl, _⟩ := h
    rfl
  · obtain ⟨p, n, v, d, rfl, hv, n60, k⟩ := h
    have q0 := k H (Ex.refl _)
    have ok := hv.okp n60
    obtain ⟨t, g⟩ := hv.pl.kin (K := K)
    refine ⟨_, rfl, v, .ty "tuple", t, .type "tuple", isT H v, rfl, .ty _, g.ty, g.tuple, isT H v, rfl, ?_⟩
    rcases hv.isT with ⟨m', a, xs, ds, _, rfl, np, rfl, ha, l, pr, e⟩ | ⟨e, nt⟩
    rotate_left
    · rw [e]
      rw [show formD d = false by cases d <;> first | rfl | exact absurd rfl (nt _)] at q0
      exact iteT q0
    rw [e]
    refine iteF ?_
    have len_ : ∀ {H' : Hp}, Ex H H' → LenV K (.ref a) H' xs.length := fun e => .inr ⟨_, st_of (e _ _ ha), rfl⟩
    refine ⟨_, rfl, .ref a, _, rfl, len_ (Ex.refl _), rfl, _, rfl, ?_⟩
    rw [intE]
    match xs, ds, pr with
    | [], [], .nil => exact iteT q0
    | u :: us, x :: r, .cons gx pr' =>
      have ul : us.length = r.length := prd_len pr'
      refine ite2 (fun h => ?_) (fun _ => ?_)
      · have := of_decide_eq_true h
        rw [List.length_cons] at this
        omega
      have at0 : ∀ {H' : Hp} {R : VK}, Ex H H' → R u H' → rIx K (.ref a) (.int 0) H' R := fun {H' R} e q => .inr (.inl ⟨a, _, 0, _, rfl, rfl, st_of (e _ _ ha), (atI_nat rfl : atI (u :: us) ((0 : Nat) : Int) = some u), q⟩)
      obtain ⟨tx, g2⟩ := gx.pl.kin (K := K)
      refine ⟨_, rfl, at0 (Ex.refl _) ⟨u, .ty "str", tx, .type "str", isS u, rfl, .ty _, g2.ty, g2.str, isS u, rfl, ?_⟩⟩
      cases hs : isS u with
      | false =>
        have ef : formD (.tuple (x :: r)) = false := by
          cases h : formD (.tuple (x :: r)) with
          | false => rfl
          | true =>
            obtain ⟨y, rfl⟩ := form_head h
            have := gx.noS hs y
            rw [show strD y (.str y) = true from decide_eq_true rfl] at this
            cases this
        rw [ef] at q0
        exact iteT q0
      | true =>
        refine iteF ?_
        obtain ⟨y, rfl, rfl, _⟩ := gx.isS hs
        have kept : (y = tKept ∨ r.length ≠ 2) → ∀ H1, Ex H H1 → (1 ≤ sizeLine ∧ ∀ b, H1 b = none → ∃ d e, Dp K (upd H1 b (.tup [.str tKept])) (.ref a) d ∧ Dp K (upd H1 b (.tup [.str tKept])) (.ref b) e ∧ okP d = true ∧ okP e = true ∧ Q (.bl (PyData.eqv d e)) (upd H1 b (.tup [.str tKept]))) := fun c H1 e1 => by
          refine ⟨by decide, fun b hb => ?_⟩
          have e2 : Ex H (upd H1 b (.tup [.str tKept])) := e1.trans (Ex.new hb)
          refine ⟨_, .tuple [.str tKept], (hv.ex e2).dp, .tup (st_of upd_same) (.cons (.str _) .nil), ok, by decide +kernel, ?_⟩
          rw [eqv_kept y r c]
          exact k _ e2
        refine ⟨_, rfl, at0 (Ex.refl _) ⟨rfl, _, rfl, ?_⟩⟩
        rw [strE]
        refine ite2 (fun h => ⟨_, rfl, kept (.inl (of_decide_eq_true h)) H (Ex.refl _)⟩) (fun h => ?_)
        have nk : y ≠ tKept := fun z => h (decide_eq_true z)
        refine ⟨_, rfl, .ref a, _, rfl, len_ (Ex.refl _), rfl, _, rfl, ?_⟩
        rw [intE]
        refine ite2 (fun h3 => ⟨_, rfl, kept (.inr fun z => ?_) H (Ex.refl _)⟩) (fun h3 => ?_)
        · have : (!decide (((((V.str y :: us) : List V).length : Nat) : Int) = 3)) = true := h3
          rw [List.length_cons, ul, z] at this
          exact absurd this (by decide)
        have l3 : r.length = 2 := by
          have h3 : ¬ ((!decide (((((V.str y :: us) : List V).length : Nat) : Int) = 3)) = true) := h3
          rw [List.length_cons] at h3
          simp only [Bool.not_eq_true', decide_eq_false_iff_not, Decidable.not_not] at h3
          omega
        clear kept h h3
        match us, r, pr' with
        | [u2, u3], [x2, x3], .cons gy (.cons gz .nil) =>
          refine ⟨_, rfl, at0 (Ex.refl _) ⟨(by show 4 ≤ sizeLine; decide), fun b hb => ?_⟩⟩
          have e1 : Ex H (upd H b (.lst [.str tTold, .str tWarned, .str tHidden, .str tSure])) := Ex.new hb
          have hb1 : upd H b (.lst [.str tTold, .str tWarned, .str tHidden, .str tSure]) b = some (.lst ([tTold, tWarned, tHidden, tSure].map V.str)) := upd_same
          generalize upd H b (.lst [.str tTold, .str tWarned, .str tHidden, .str tSure]) = H1 at e1 hb1
          refine ⟨b, _, rfl, .inl (sq_of hb1), rfl, flat_strs _, _, rfl, ?_⟩
          show if (!inV (.str y) ([tTold, tWarned, tHidden, tSure].map V.str)) = true then _ else _
          rw [inV_str]
          refine ite2 (fun h => ?_) (fun h => ?_)
          · have nin : y ∉ [tTold, tWarned, tHidden, tSure] := by simpa using h
            simp only [List.mem_cons, List.not_mem_nil, or_false, not_or] at nin
            have q := k H1 e1
            have sf : ∀ {z : Str}, y ≠ z → strD z (.str y) = false := fun n => decide_eq_false n
            rw [formD3, sf nin.1, sf nin.2.1, sf nin.2.2.1, sf nin.2.2.2] at q
            exact q
          · have inn : y ∈ [tTold, tWarned, tHidden, tSure] := by
              cases e : decide (y ∈ [tTold, tWarned, tHidden, tSure]) with
              | true => exact of_decide_eq_true e
              | false =>
                rw [e] at h
                exact absurd rfl h
            refine ⟨_, rfl, at0 e1 ⟨rfl, _, rfl, ?_⟩⟩
            rw [strE]
            have rest : (y = tHidden → flagD x3 = true) → ∀ H2, Ex H H2 → ∃ v_1, ([some (.ref a)] : L2.St)[0]? = some (some v_1) ∧ ∃ p n v d, [v_1] = [v] ∧ At p n H2 v d ∧ LFm d ∧ ∀ H', Ex H2 H' → Q (.bl (formD d)) H' := fun c H2 e2 => by
              refine ⟨_, rfl, p, n, .ref a, _, rfl, hv.ex e2, .inr (.inr ⟨y, x2, x3, rfl, ?_⟩), fun H3 e3 => k H3 (e2.trans e3)⟩
              simp only [List.mem_cons, List.not_mem_nil, or_false] at inn
              rcases inn with h | h | h | h
              · exact .inl h
              · exact .inr (.inl h)
              · exact .inr (.inr (.inl ⟨h, c h⟩))
              · exact .inr (.inr (.inr h))
            refine ite2 (fun h1 => ?_) (fun h1 => ?_)
            · obtain ⟨tz, g3⟩ := (gz.ex e1).pl.kin (K := K)
              refine ⟨_, rfl, .inr (.inl ⟨a, _, 2, _, rfl, rfl, st_of (e1 _ _ ha), rfl, u3, .ty "bool", tz, .type "bool", isB u3, rfl, .ty _, g3.ty, g3.bool, isB u3, rfl, ?_⟩)⟩
              cases hbz : isB u3 with
              | false =>
                have q := k H1 e1
                have hy := of_decide_eq_true h1
                rw [hy, form_hidden, ← gz.isB, hbz, Bool.and_false] at q
                exact iteT q
              | true => exact iteF (rest (fun _ => by rw [← gz.isB]; exact hbz) H1 e1)
            · exact rest (fun z => absurd (decide_eq_true z) h1) H1 e1
        | [], [], _ => exact absurd l3 (by decide)
        | [_], [_], _ => exact absurd l3 (by simp)
        | _ :: _ :: _ :: _, _ :: _ :: _ :: _, _ => exact absurd l3 (by simp)
end
end WK

set_option Elab.async false
set_option linter.all false
set_option maxRecDepth 100000
set_option maxHeartbeats 4000000
namespace WK
open PySem PySem.Spec PyProof.Rows L2 WW Evl TL
theorem IsNm.nmS {z : Str} (h : IsNm z) : nmS z = true := by
  unfold WW.nmS
  rw [decide_eq_true (show (1 : Int) ≤ z.length by have := h.1; omega), decide_eq_true (show (z.length : Int) ≤ 10 by have := h.2.1; omega)]
  simp only [Bool.true_and]
  refine List.all_eq_true.mpr fun c hc => ?_
  have := h.2.2 c hc
  unfold lcB
  rw [decide_eq_true this.1, decide_eq_true this.2]
  rfl
theorem lt_of_le {a b : Str} (h : leS a b = true) (n : a ≠ b) : a.cps.toList < b.cps.toList := by
  unfold leS at h
  have h := of_decide_eq_true h
  by_cases hl : a.cps.toList < b.cps.toList
  · exact hl
  · exact absurd (str_ext (Std.le_antisymm h (List.not_lt.mp hl))) n
theorem asc_sort {zs : List Str} (nd : zs.Nodup) : ascS (sortS zs) = true := by
  have hs := sortS_sorted zs
  have nd2 : (sortS zs).Nodup := (sortS_perm zs).nodup_iff.mpr nd
  generalize sortS zs = ys at hs nd2
  unfold ascS
  rw [List.all_eq_true]
  intro i hi
  have hi := List.mem_range.mp hi
  have h1 : i < ys.length := by omega
  have h2 : i + 1 < ys.length := by omega
  rw [getD_of (List.getElem?_eq_getElem h1), getD_of (List.getElem?_eq_getElem h2)]
  refine decide_eq_true (lt_of_le (List.pairwise_iff_getElem.mp hs i (i + 1) h1 h2 (by omega)) fun e => ?_)
  exact (List.pairwise_iff_getElem.mp nd2 i (i + 1) h1 h2 (by omega)) e
/-- drawn names, ascending -/
theorem row_names {zs : List Str} (nd : zs.Nodup) (nm : ∀ z ∈ zs, IsNm z) : wdsD (.tuple ((sortS zs).map .str)) = true := by
  show (((sortS zs).map PyData.str).all nmD && ascS (((sortS zs).map PyData.str).map stD)) = true
  rw [List.map_map, show (stD ∘ PyData.str) = id from rfl, List.map_id, asc_sort nd, Bool.and_true, List.all_eq_true]
  intro d hd
  obtain ⟨z, hz, rfl⟩ := List.mem_map.mp hd
  exact (nm z (sortS_mem.mp hz)).nmS
theorem Kp.at {p : Addr} {n : Nat} {H H' : Hp} {v : V} {d : PyData} (K : Kp p H H') (h : At p n H v d) : At p n H' v d := At.k K.k h
theorem prd_nm {p : Addr} {H : Hp} {zs : List Str} (h : ∀ z ∈ zs, IsNm z) : Paired (At p 0 H) (zs.map V.str) (zs.map PyData.str) := prd_strs fun z hz => Nat.le_trans (h z hz).2.1 (by decide)
/-! ### weights of joined texts -/
def wt (ps : List Str) : Nat := (ps.map (·.length)).sum + ps.length
theorem wt_nil : wt [] = 0 := rfl
theorem wt_cons (x : Str) (ps : List Str) : wt (x :: ps) = x.length + 1 + wt ps := by
  unfold wt
  rw [List.map_cons, List.sum_cons, List.length_cons]
  omega
theorem wt_app (ps qs : List Str) : wt (ps ++ qs) = wt ps + wt qs := by
  induction ps with
  | nil => rw [wt_nil, Nat.zero_add]; rfl
  | cons x ps ih => rw [List.cons_append, wt_cons, wt_cons, ih]; omega
theorem wt_rev (ps : List Str) : wt ps.reverse = wt ps := by
  induction ps with
  | nil => rfl
  | cons x ps ih => rw [List.reverse_cons, wt_app, ih, wt_cons, wt_cons, wt_nil]; omega
theorem wt_set : ∀ {ps : List Str} {j : Nat} {x : Str}, wt (ps.set j x) ≤ wt ps + x.length
  | [], _, _ => Nat.zero_le _
  | y :: ps, 0, x => by rw [List.set_cons_zero, wt_cons, wt_cons]; omega
  | y :: ps, j + 1, x => by
    have := wt_set (ps := ps) (j := j) (x := x)
    rw [List.set_cons_succ, wt_cons, wt_cons]
    omega
theorem jn_len : ∀ {ps : List Str}, ps ≠ [] → (Str.join sp1 ps).length + 1 = wt ps
  | [], h => absurd rfl h
  | [x], _ => by
    rw [wt_cons, wt_nil]
    rfl
  | x :: y :: r, _ => by
    have ih := jn_len (ps := y :: r) (by simp)
    have e : Str.join sp1 (x :: y :: r) = x ++ sp1 ++ Str.join sp1 (y :: r) := rfl
    have l1 : sp1.length = 1 := by decide +kernel
    rw [wt_cons, e, len_tl, tl_append, tl_append, List.length_append, List.length_append, ← len_tl, ← len_tl, ← len_tl, l1, ← ih]
    omega
theorem wt_split (t : Str) : wt (Txt.split t sp1) = t.length + 1 := by
  have := jn_len (split_ne t sp1)
  rw [jn_split] at this
  exact this.symm
theorem cut_len (z : Str) (lo hi : Option Int) : (cutS z lo hi).length ≤ z.length := by
  rw [len_tl, len_tl]
  show (((tl z).drop _).take _).length ≤ _
  rw [List.length_take, List.length_drop]
  omega
section
variable {P : Program} {w : World} {K : PySem.W.Frag} {mg : Str → Option Value} {base : Heap} {f : Addr} {fd : FuncData}
abbrev s__law_draw_wish : Stmt := top 48
theorem sc__law_draw_wish : FnScope ["_law_pool_here", "_law_kind", "_law_name_here", "_law_number_here", "_law_one"] ["_law_pool_here"] (defScope s__law_draw_wish) := ⟨rfl, rfl, rfl, by decide +kernel, rfl, by decide +kernel, by decide +kernel⟩
def spDrawW : Sp := fun vs H Q _ => ∃ p, vs = [.ref p] ∧ Pool H p ∧ ∀ v d H', At p 2 H' v d → formD d = true → shortW 5 d = true → Kp p H H' → Pool H' p → Q v H'
theorem ok_draw_wish (G : Gz mg) (D : Df K mg "_law_draw_wish" s__law_draw_wish f fd ["_law_pool_here"]) (c__law_draw : Callee P w K mg base CXn 1 "_law_draw" 2 spDraw) (c__law_name : Callee P w K mg base CXn 2 "_law_name" 2 spName) (c__law_names : Callee P w K mg base CXn 3 "_law_names" 2 spNames) : Callee P w K mg base CXn 4 "_law_draw_wish" 1 spDrawW := by
  refine D.callee (D.fn.ok sc__law_draw_wish (fun vs H Q E h => ?_) (fun cdv A outer s H vs Q E hr h => ⟨_, PSs.nox (pss_cons (ps_set (i := 1) sc__law_draw_wish.nd rfl (Or.inl rfl) (pe_cl (E := En) c__law_draw (hr.mono (by decide)) rfl passN (pa_cons (pv 0) (pa_cons pe_int pa_nil)))) (pss_cons (ps_set (i := 2) sc__law_draw_wish.nd rfl (Or.inl rfl) (pe_cl (E := En) c__law_name (hr.mono (by decide)) rfl passN (pa_cons (pv 0) (pa_cons (pe_lst pa_nil) pa_nil)))) (pss_cons (ps_set (i := 3) sc__law_draw_wish.nd rfl (Or.inl rfl) (pe_ix (ixK (K := K) rfl) (pe_lst (pa_cons (pe_cl (E := En) c__law_draw (hr.mono (by decide)) rfl passN (pa_cons (pv 0) (pa_cons pe_int pa_nil))) (pa_cons (pe_cl (E := En) c__law_draw (hr.mono (by decide)) rfl passN (pa_cons (pv 0) (pa_cons pe_int pa_nil))) (pa_cons pe_int (pa_cons pe_int pa_nil))))) (pe_cl (E := En) c__law_draw (hr.mono (by decide)) rfl passN (pa_cons (pv 0) (pa_cons pe_int pa_nil))) (fun _ _ => rfl))) (pss_cons (ps_if (pt_cmpR op_eq (pv 1) pe_int (nomark _)) (pss_one (ps_ret (pe_tup (pa_cons pe_str pa_nil)))) pss_nil) (pss_cons (ps_if (pt_cmpR op_lt (pv 1) pe_int (nomark _)) (pss_one (ps_ret (pe_tup (pa_cons (pe_ix (ixK (K := K) rfl) (pe_lst (pa_cons pe_str (pa_cons pe_str pa_nil))) (pe_op op_sub (pv 1) pe_int) (fun _ _ => rfl)) (pa_cons (pv 2) (pa_cons (pv 3) pa_nil)))))) pss_nil) (pss_cons (ps_if (pt_cmpR op_eq (pv 1) pe_int (nomark _)) (pss_one (ps_ret (pe_tup (pa_cons pe_str (pa_cons (pv 2) (pa_cons (pe_cmpR op_eq (pe_cl (E := En) c__law_draw (hr.mono (by decide)) rfl passN (pa_cons (pv 0) (pa_cons pe_int pa_nil))) pe_int (nomark _)) pa_nil)))))) pss_nil) (pss_cons (ps_set (i := 4) sc__law_draw_wish.nd rfl (Or.inl rfl) (pe_callTy (tupOfK (K := K) rfl) rfl G.g_tuple (by rfl) (pa_cons (pe_callB (cr_sortL rfl) rfl G.g_sorted (by rfl) (pa_cons (pe_cl (E := En) c__law_names (hr.mono (by decide)) rfl passN (pa_cons (pv 0) (pa_cons (pe_cl (E := En) c__law_draw (hr.mono (by decide)) rfl passN (pa_cons (pv 0) (pa_cons pe_int pa_nil))) pa_nil))) pa_nil)) pa_nil))) (pss_one (ps_ret (pe_tup (pa_cons pe_str (pa_cons (pv 4) (pa_cons (pe_callTy (tupOfK (K := K) rfl) rfl G.g_tuple (by rfl) (pa_cons (pe_callB (cr_sortL rfl) rfl G.g_sorted (by rfl) (pa_cons (pe_cl (E := En) c__law_names (hr.mono (by decide)) rfl passN (pa_cons (pv 0) (pa_cons (pe_cl (E := En) c__law_draw (hr.mono (by decide)) rfl passN (pa_cons (pv 0) (pa_cons pe_int pa_nil))) pa_nil))) pa_nil)) pa_nil)) pa_nil))))))))))))), ?_⟩))
  · obtain ⟨_, rfl, _⟩ := h
    rfl
  · obtain ⟨p, rfl, hP, k⟩ := h
    refine ⟨_, rfl, p, 5, rfl, hP, by decide, by decide, fun kd H1 k0 k5 K1 P1 => ?_⟩
    refine ⟨_, rfl, Nat.zero_le _, fun l0 hl0 => ?_⟩
    have P1' := P1.ex (Ex.new (o := .lst []) hl0)
    have nl0 : l0 ≠ p := fun z => P1.here (z ▸ hl0)
    refine ⟨p, l0, [], rfl, P1', nl0, upd_same, by decide, fun z H2 zn _ K2 P2 => ?_⟩
    have zok := zn.nmS
    have zl : z.length ≤ 1000 := Nat.le_trans zn.2.1 (by decide)
    have K02 : Kp p H H2 := K1.trans ((Kp.ex (Ex.new hl0) P1).trans K2)
    clear K1 K2 P1 P1' nl0 hl0
    -- the number
    refine ⟨_, rfl, p, 12, rfl, P2, by decide, by decide, fun a H3 a0 a1 K3 P3 => ⟨_, rfl, p, 1001, rfl, P3, by decide, by decide, fun b H4 b0 b1 K4 P4 => ⟨(by show 4 ≤ sizeLine; decide), fun l hl => ⟨_, rfl, p, 4, rfl, P4.ex (Ex.new hl), by decide, by decide, fun j H5 j0 j1 K5 P5 => ?_⟩⟩⟩⟩
    have nlp : l ≠ p := fun z => P4.here (z ▸ hl)
    have hm : ∃ m : Int, ([.int a, .int b, .int 1000, .int 100] : List V)[j.toNat]? = some (.int m) ∧ 0 ≤ m ∧ m < 1001 := by
      have hd : j = 0 ∨ j = 1 ∨ j = 2 ∨ j = 3 := by omega
      rcases hd with rfl | rfl | rfl | rfl <;> exact ⟨_, rfl, by omega, by omega⟩
    obtain ⟨m, hm, m0, m1⟩ := hm
    refine .inl ⟨l, _, j, .int m, rfl, rfl, sq_of (K5.k l _ nlp upd_same), at_of (j := j.toNat) (by omega) hm, ?_⟩
    have K05 : Kp p H H5 := K02.trans (K3.trans (K4.trans ((Kp.ex (Ex.new hl) P4).trans K5)))
    clear K02 K3 K4 K5 P2 P3 P4 nlp hm hl
    have cm : cntD (.int m) = true := by
      show (decide (0 ≤ m) && decide (m < 1001)) = true
      rw [decide_eq_true m0, decide_eq_true m1]
      rfl
    have new : ∀ {H' : Hp} {t : Addr} {xs : List V} {ds : List PyData}, Kp p H H' → Pool H' p → H' t = none → xs.length ≤ 2000 → Paired (At p 1 (upd H' t (.tup xs))) xs ds → formD (.tuple ds) = true → shortW 5 (.tuple ds) = true → Q (.ref t) (upd H' t (.tup xs)) := fun {H' t xs ds} K' P' ht l q f s =>
      k _ _ _ (At.tup (fun z => P'.here (z ▸ ht)) upd_same l q) f s (K'.trans (Kp.ex (Ex.new ht) P')) (P'.ex (Ex.new ht))
    refine ⟨_, rfl, rfl, _, rfl, ?_⟩
    refine ite2 (fun _ => ?_) (fun h0 => ?_)
    · exact ⟨(by show 1 ≤ sizeLine; decide), fun t ht => new K05 P5 ht (by show 1 ≤ 2000; decide) (.cons (At.leaf (LfD.str (by decide +kernel))) .nil) form_kept rfl⟩
    refine ⟨_, rfl, _, _, rfl, rfl, _, rfl, ?_⟩
    refine ite2 (fun h3 => ?_) (fun h3 => ?_)
    · have h3 : kd < 3 := of_decide_eq_true h3
      have k1 : kd ≠ 0 := fun z => h0 (by rw [z]; rfl)
      refine ⟨(by show 2 ≤ sizeLine; decide), fun l hl => ⟨_, rfl, kd, 1, rfl, rfl, ?_⟩⟩
      have e : kd = 1 ∨ kd = 2 := by omega
      have eK : Kp p H (upd H5 l (.lst [.str tTold, .str tWarned])) := K05.trans (Kp.ex (Ex.new hl) P5)
      have eP := P5.ex (Ex.new (o := .lst [.str tTold, .str tWarned]) hl)
      rcases e with rfl | rfl
      · refine .inl ⟨l, _, 0, .str tTold, rfl, rfl, sq_of upd_same, rfl, _, rfl, _, rfl, (by show 3 ≤ sizeLine; decide), fun t ht => ?_⟩
        exact new eK eP ht (by show 3 ≤ 2000; decide) (.cons (At.leaf (LfD.str (by decide +kernel))) (.cons (At.leaf (LfD.st zl)) (.cons (At.leaf rfl) .nil))) (by rw [form_told, cm]; show (nmS z && true) = true; rw [zok]; rfl) rfl
      · refine .inl ⟨l, _, 1, .str tWarned, rfl, rfl, sq_of upd_same, rfl, _, rfl, _, rfl, (by show 3 ≤ sizeLine; decide), fun t ht => ?_⟩
        exact new eK eP ht (by show 3 ≤ 2000; decide) (.cons (At.leaf (LfD.str (by decide +kernel))) (.cons (At.leaf (LfD.st zl)) (.cons (At.leaf rfl) .nil))) (by rw [form_warned, cm]; show (nmS z && true) = true; rw [zok]; rfl) rfl
    refine ⟨_, rfl, rfl, _, rfl, ?_⟩
    refine ite2 (fun _ => ?_) (fun _ => ?_)
    · refine ⟨_, rfl, _, rfl, p, 2, rfl, P5, by decide, by decide, fun e H6 e0 e1 K6 P6 => ⟨rfl, (by show 3 ≤ sizeLine; decide), fun t ht => ?_⟩⟩
      exact new (K05.trans K6) P6 ht (by show 3 ≤ 2000; decide) (.cons (At.leaf (LfD.str (by decide +kernel))) (.cons (At.leaf (LfD.st zl)) (.cons (At.leaf rfl) .nil))) (by rw [form_hidden]; show (nmS z && true) = true; rw [zok]; rfl) rfl
    -- sure
    refine ⟨_, rfl, _, rfl, p, 5, rfl, P5, by decide, by decide, fun m2 H6 m20 m21 K6 P6 => ⟨p, m2, rfl, P6, by omega, by omega, fun a2 zs H7 zl2 nd nm K7 P7 ha0 nap ha => ⟨a2, zs, rfl, sq_of ha, by omega, fun q hq => ⟨q, _, rfl, .inl ⟨sq_of upd_same, fun t ht => ?_⟩⟩⟩⟩⟩
    have e7 : Ex H7 (upd (upd H7 q (.lst ((sortS zs).map V.str))) t (.tup ((sortS zs).map V.str))) := (Ex.new hq).trans (Ex.new ht)
    have nt : t ≠ p := fun z => (P7.ex (Ex.new hq)).here (z ▸ ht)
    have h1 : At p 1 (upd (upd H7 q (.lst ((sortS zs).map V.str))) t (.tup ((sortS zs).map V.str))) (.ref t) (.tuple ((sortS zs).map .str)) := At.tup nt upd_same (by rw [List.length_map, sortS_len]; omega) (prd_nm fun z hz => nm z (sortS_mem.mp hz))
    have P8 := P7.ex e7
    have K08 : Kp p H _ := K05.trans (K6.trans (K7.trans (Kp.ex e7 P7)))
    generalize upd (upd H7 q (.lst ((sortS zs).map V.str))) t (.tup ((sortS zs).map V.str)) = H8 at h1 P8 K08
    clear e7 hq ht
    refine ⟨_, rfl, _, rfl, _, rfl, p, 5, rfl, P8, by decide, by decide, fun m3 H9 m30 m31 K9 P9 => ⟨p, m3, rfl, P9, by omega, by omega, fun a3 ys H10 yl nd2 nm2 K10 P10 hb0 nbp hb => ⟨a3, ys, rfl, sq_of hb, by omega, fun q2 hq2 => ⟨q2, _, rfl, .inl ⟨sq_of upd_same, fun t2 ht2 => ?_⟩⟩⟩⟩⟩
    have e10 : Ex H10 (upd (upd H10 q2 (.lst ((sortS ys).map V.str))) t2 (.tup ((sortS ys).map V.str))) := (Ex.new hq2).trans (Ex.new ht2)
    have nt2 : t2 ≠ p := fun z => (P10.ex (Ex.new hq2)).here (z ▸ ht2)
    have h2 : At p 1 (upd (upd H10 q2 (.lst ((sortS ys).map V.str))) t2 (.tup ((sortS ys).map V.str))) (.ref t2) (.tuple ((sortS ys).map .str)) := At.tup nt2 upd_same (by rw [List.length_map, sortS_len]; omega) (prd_nm fun z hz => nm2 z (sortS_mem.mp hz))
    have P11 := P10.ex e10
    have K8b : Kp p H8 _ := K9.trans (K10.trans (Kp.ex e10 P10))
    have h1b := Kp.at K8b h1
    generalize upd (upd H10 q2 (.lst ((sortS ys).map V.str))) t2 (.tup ((sortS ys).map V.str)) = H11 at h2 P11 K8b h1b
    refine ⟨(by show 3 ≤ sizeLine; decide), fun t3 ht3 => ?_⟩
    refine new (K08.trans K8b) P11 ht3 (by show 3 ≤ 2000; decide) (.cons (At.leaf (LfD.str (by decide +kernel))) (.cons (h1b.ex (Ex.new ht3)) (.cons (h2.ex (Ex.new ht3)) .nil))) (by rw [form_sure, row_names nd nm, row_names nd2 nm2]; rfl) ?_
    show (decide (((sortS zs).map PyData.str).length ≤ 5) && decide (((sortS ys).map PyData.str).length ≤ 5)) = true
    rw [List.length_map, List.length_map, sortS_len, sortS_len, decide_eq_true (by omega), decide_eq_true (by omega)]
    rfl
end
end WK

set_option Elab.async false
set_option linter.all false
set_option maxRecDepth 100000
set_option maxHeartbeats 4000000
namespace WK
open PySem PySem.Spec PyProof.Rows L2 WW Evl TL
/-- the classes of the errors -/
structure Er (K : PySem.W.Frag) (mg : Str → Option Value) (CT CW : Addr) : Prop where
  gT : mg "BadText" = some (.ref CT)
  gW : mg "BadWish" = some (.ref CW)
  xT : XfC K CT
  xW : XfC K CW
  nT : PySem.W.findIn K (.ref CT) "at" = some none
  nW : PySem.W.findIn K (.ref CW) "value" = some none
  mTT : PySem.W.exmOne K (.ref CT) (.ref CT) = some true
  mWT : PySem.W.exmOne K (.ref CW) (.ref CT) = some false
  mWW : PySem.W.exmOne K (.ref CW) (.ref CW) = some true
abbrev tText : Str := "text"
abbrev tWish : Str := "wish"
def tellW (d : PyData) : PyData := if formD d = true then .tuple [.str tTold, .str (textD d)] else .tuple [.str tWish, d]
def tellR (t : Str) : PyData := if formD (raw numP (Txt.split t sp1)) = true then .tuple [.str tTold, raw numP (Txt.split t sp1)] else .tuple [.str tText, .int 0]
section
variable {P : Program} {w : World} {K : PySem.W.Frag} {mg : Str → Option Value} {base : Heap} {f : Addr} {fd : FuncData}
abbrev s__law_spoiled : Stmt := top 56
theorem sc__law_spoiled : FnScope ["_law_pool_here", "_law_text_here", "_law_at", "_law_sign", "_law_kind", "_law_parts"] ["_law_pool_here", "_law_text_here"] (defScope s__law_spoiled) := ⟨rfl, rfl, rfl, by decide +kernel, rfl, by decide +kernel, by decide +kernel⟩
def spSpoil : Sp := fun vs H Q _ => ∃ p t, vs = [.ref p, .str t] ∧ Pool H p ∧ t.length ≤ 400 ∧ ∀ u H', u.length ≤ 1000 → Kp p H H' → Pool H' p → Q (.str u) H'
theorem ok_spoil (G : Gz mg) (D : Df K mg "_law_spoiled" s__law_spoiled f fd ["_law_pool_here", "_law_text_here"]) (c__law_draw : Callee P w K mg base CXn 1 "_law_draw" 2 spDraw) (c__law_pick : Callee P w K mg base CXn 2 "_law_pick" 2 spPick) : Callee P w K mg base CXn 3 "_law_spoiled" 2 spSpoil := by
  refine D.callee (D.fn.ok sc__law_spoiled (fun vs H Q E h => ?_) (fun cdv A outer s H vs Q E hr h => ⟨_, PSs.nox (pss_cons (ps_set (i := 2) sc__law_spoiled.nd rfl (Or.inl rfl) (pe_cl (E := En) c__law_draw (hr.mono (by decide)) rfl passN (pa_cons (pv 0) (pa_cons (pe_op op_add (pe_callB (lenK (K := K) rfl) rfl G.g_len PySem.boot_len (pa_cons (pv 1) pa_nil)) pe_int) pa_nil)))) (pss_cons (ps_set (i := 3) sc__law_spoiled.nd rfl (Or.inl rfl) (pe_cl (E := En) c__law_pick (hr.mono (by decide)) rfl passN (pa_cons (pv 0) (pa_cons (pe_lst (pa_cons pe_str (pa_cons pe_str (pa_cons pe_str (pa_cons pe_str (pa_cons pe_str (pa_cons pe_str (pa_cons pe_str (pa_cons pe_str (pa_cons pe_str (pa_cons pe_str (pa_cons pe_str pa_nil)))))))))))) pa_nil)))) (pss_cons (ps_set (i := 4) sc__law_spoiled.nd rfl (Or.inl rfl) (pe_cl (E := En) c__law_draw (hr.mono (by decide)) rfl passN (pa_cons (pv 0) (pa_cons pe_int pa_nil)))) (pss_cons (ps_if (pt_cmpR op_eq (pv 4) pe_int (nomark _)) (pss_one (ps_ret (pe_op op_add_str (pe_op op_add_str (pe_slice sl_str (pv 1) po_none (po_some (pv 2))) (pv 3)) (pe_slice sl_str (pv 1) (po_some (pv 2)) po_none)))) pss_nil) (pss_cons (ps_if (pt_cmpR op_eq (pv 4) pe_int (nomark _)) (pss_one (ps_ret (pe_op op_add_str (pe_slice sl_str (pv 1) po_none (po_some (pv 2))) (pe_slice sl_str (pv 1) (po_some (pe_op op_add (pv 2) pe_int)) po_none)))) pss_nil) (pss_cons (ps_if (pt_cmpR op_eq (pv 4) pe_int (nomark _)) (pss_one (ps_ret (pe_op op_add_str (pe_op op_add_str (pe_slice sl_str (pv 1) po_none (po_some (pv 2))) (pv 3)) (pe_slice sl_str (pv 1) (po_some (pe_op op_add (pv 2) pe_int)) po_none)))) pss_nil) (pss_cons (ps_set (i := 5) sc__law_spoiled.nd rfl (Or.inl rfl) (pe_split (pv 1) pe_str)) (pss_cut (ps_if (pt_cmpR op_eq (pv 4) pe_int (nomark _)) (pss_one (ps_asg (pe_op op_add_str pe_str (pe_ix (ixK (K := K) rfl) (pv 5) (pe_un un_neg pe_int) (fun _ _ => rfl))) (pg_sub (pv 5) (pe_un un_neg pe_int) set_list))) (pss_one (ps_if (pt_cmpR op_eq (pv 4) pe_int (nomark _)) (pss_one (ps_set (i := 5) sc__law_spoiled.nd rfl (Or.inl rfl) (pe_revL (pv 5)))) (pss_one (ps_asg (pe_cl (E := En) c__law_pick (hr.mono (by decide)) rfl passN (pa_cons (pv 0) (pa_cons (pe_lst (pa_cons pe_str (pa_cons pe_str (pa_cons pe_str (pa_cons pe_str (pa_cons pe_str (pa_cons pe_str (pa_cons pe_str (pa_cons pe_str pa_nil))))))))) pa_nil))) (pg_sub (pv 5) (pe_cl (E := En) c__law_draw (hr.mono (by decide)) rfl passN (pa_cons (pv 0) (pa_cons (pe_callB (lenK (K := K) rfl) rfl G.g_len PySem.boot_len (pa_cons (pv 5) pa_nil)) pa_nil))) set_list)))))) (pss_one (ps_ret (pe_join pe_str (pv 5)))))))))))), ?_⟩))
  · obtain ⟨_, _, rfl, _⟩ := h
    rfl
  · obtain ⟨p, t, rfl, hP, tl4, k⟩ := h
    have big : ∀ {k : Nat}, k ≤ 90000 → k ≤ sizeLine := fun h => Nat.le_trans h (by decide)
    have lt : t.length ≤ sizeLine := big (by omega)
    have al : ∀ x y : Str, (x ++ y).length = x.length + y.length := fun x y => by rw [len_tl, tl_append, List.length_append, ← len_tl, ← len_tl]
    refine ⟨_, rfl, _, rfl, .str t, t.length, rfl, ⟨lt, rfl⟩, _, _, rfl, rfl, p, _, rfl, hP, by omega, by omega, fun d H1 d0 d1 K1 P1 => ?_⟩
    refine ⟨_, rfl, (by show 11 ≤ sizeLine; decide), fun l hl => ?_⟩
    have nlp : l ≠ p := fun z => P1.here (z ▸ hl)
    refine ⟨p, l, _, rfl, P1.ex (Ex.new hl), nlp, .inl upd_same, by simp, by show 11 ≤ 1000; decide, fun x H2 mx K2 P2 => ?_⟩
    obtain ⟨s1, rfl, sl⟩ : ∃ s, x = .str s ∧ s.length ≤ 10 := by
      simp only [List.mem_cons, List.not_mem_nil, or_false] at mx
      rcases mx with rfl | rfl | rfl | rfl | rfl | rfl | rfl | rfl | rfl | rfl | rfl <;> exact ⟨_, rfl, by decide +kernel⟩
    have K02 : Kp p H H2 := K1.trans ((Kp.ex (Ex.new hl) P1).trans K2)
    refine ⟨_, rfl, p, 6, rfl, P2, by decide, by decide, fun kd H3 k0 k6 K3 P3 => ?_⟩
    have K03 := K02.trans K3
    clear K1 K2 K3 P1 P2 mx hl nlp K02
    have c1 := cut_len t none (some d)
    have c2 := cut_len t (some d) none
    have c3 := cut_len t (some (d + 1)) none
    refine ⟨_, rfl, rfl, _, rfl, ?_⟩
    refine ite2 (fun _ => ?_) (fun _ => ?_)
    · exact ⟨_, rfl, _, rfl, d, rfl, t, rfl, lt, _, rfl, _, _, rfl, rfl, big (by omega), _, rfl, _, rfl, d, rfl, t, rfl, lt, _, _, rfl, rfl, big (by rw [al]; omega), k _ _ (by rw [al, al]; omega) K03 P3⟩
    refine ⟨_, rfl, rfl, _, rfl, ?_⟩
    refine ite2 (fun _ => ?_) (fun _ => ?_)
    · exact ⟨_, rfl, _, rfl, d, rfl, t, rfl, lt, _, rfl, _, rfl, _, _, rfl, rfl, d + 1, rfl, t, rfl, lt, _, _, rfl, rfl, big (by omega), k _ _ (by rw [al]; omega) K03 P3⟩
    refine ⟨_, rfl, rfl, _, rfl, ?_⟩
    refine ite2 (fun _ => ?_) (fun _ => ?_)
    · exact ⟨_, rfl, _, rfl, d, rfl, t, rfl, lt, _, rfl, _, _, rfl, rfl, big (by omega), _, rfl, _, rfl, _, _, rfl, rfl, d + 1, rfl, t, rfl, lt, _, _, rfl, rfl, big (by rw [al]; omega), k _ _ (by rw [al, al]; omega) K03 P3⟩
    -- the parts
    refine ⟨_, rfl, ⟨_, rfl⟩, t, sp1, rfl, rfl, sp_len, big (by omega), fun l hl => ?_⟩
    have nlp : l ≠ p := fun z => P3.here (z ▸ hl)
    have hw := wt_split t
    have hne := split_ne t sp1
    have hl4 : upd H3 l (.lst ((Txt.split t sp1).map V.str)) l = some (.lst ((Txt.split t sp1).map V.str)) := upd_same
    have P4 := P3.ex (Ex.new (o := .lst ((Txt.split t sp1).map V.str)) hl)
    have K04 : Kp p H (upd H3 l (.lst ((Txt.split t sp1).map V.str))) := K03.trans (Kp.ex (Ex.new hl) P3)
    obtain ⟨_, ap4⟩ := Apart.new (o := .lst ((Txt.split t sp1).map V.str)) P3 hl
    have l0 : H l = none := (K03.free P3 hl).1
    generalize upd H3 l (.lst ((Txt.split t sp1).map V.str)) = H4 at hl4 P4 K04 ap4
    generalize Txt.split t sp1 = ps at hw hne hl4
    have part : ∀ x ∈ ps, x.length ≤ 401 := by
      intro x hx
      have : ∀ {qs : List Str}, x ∈ qs → x.length ≤ wt qs := by
        intro qs
        induction qs with
        | nil => intro h; cases h
        | cons y qs ih =>
          intro h
          rw [wt_cons]
          rcases List.mem_cons.mp h with rfl | h
          · omega
          · have := ih h
            omega
      have := this hx
      omega
    have pl : ps.length ≤ 401 := by
      unfold wt at hw
      omega
    refine ⟨fun σ' H' => ∃ l' qs, σ' = [some (.ref p), some (.str t), some (.int d), some (.str s1), some (.int kd), some (.ref l')] ∧ H' l' = some (.lst (qs.map V.str)) ∧ qs ≠ [] ∧ wt qs ≤ 900 ∧ Kp p H H' ∧ Pool H' p, ?_, ?_⟩
    · refine ⟨_, rfl, rfl, _, rfl, ?_⟩
      refine ite2 (fun _ => ?_) (fun _ => ?_)
      · obtain ⟨y, e⟩ : ∃ y, ps = ps.dropLast ++ [y] := ⟨_, (List.dropLast_concat_getLast hne).symm⟩
        have hy : y ∈ ps := by rw [e]; simp
        have hat : atI (ps.map V.str) (-1) = some (.str y) := by
          rw [e, List.map_append]
          exact atI_last _ _
        have hix : ixN (ps.map V.str).length (-1) = some (ps.length - 1) := by
          unfold ixN
          have : 0 < ps.length := List.length_pos_iff.mpr hne
          rw [List.length_map, if_neg (by decide), if_pos (by omega)]
          congr 1
          omega
        have hy2 := part y hy
        have z1 : ("0" : Str).length = 1 := by decide +kernel
        refine ⟨_, rfl, _, rfl, .inl ⟨l, _, -1, .str y, rfl, rfl, sq_of hl4, hat, _, _, rfl, rfl, big (by rw [z1]; omega), ?_⟩⟩
        refine ⟨_, rfl, _, rfl, l, _, -1, ps.length - 1, rfl, rfl, hl4, hix, l, ps.set (ps.length - 1) ("0" ++ y), rfl, ?_, ?_, ?_, K04.mut l0 nlp, P4.mut nlp ap4⟩
        · rw [upd_same, List.map_set]
        · intro z
          have := congrArg List.length z
          rw [List.length_set] at this
          exact hne (List.eq_nil_of_length_eq_zero this)
        · have h1 := wt_set (ps := ps) (j := ps.length - 1) (x := "0" ++ y)
          have h2 := al "0" y
          omega
      refine ⟨_, rfl, rfl, _, rfl, ?_⟩
      refine ite2 (fun _ => ?_) (fun _ => ?_)
      · refine ⟨_, rfl, l, _, rfl, sq_of hl4, fun q hq => ⟨q, ps.reverse, rfl, by rw [upd_same, List.map_reverse], fun z => hne (List.reverse_eq_nil_iff.mp z), by rw [wt_rev]; omega, K04.trans (Kp.ex (Ex.new hq) P4), P4.ex (Ex.new hq)⟩⟩
      · refine ⟨_, rfl, (by show 8 ≤ sizeLine; decide), fun l2 hl2 => ?_⟩
        have nl2 : l2 ≠ p := fun z => P4.here (z ▸ hl2)
        have e5 : Ex H4 (upd H4 l2 (.lst [.str "kept", .str "by", .str "-", .str "ahead", .str "within", .str "b,a", .str "1001", .str ""])) := Ex.new hl2
        refine ⟨p, l2, _, rfl, P4.ex e5, nl2, .inl upd_same, by simp, by show 8 ≤ 1000; decide, fun x H6 mx K6' P6 => ?_⟩
        obtain ⟨s2, rfl, sl2⟩ : ∃ s, x = .str s ∧ s.length ≤ 10 := by
          simp only [List.mem_cons, List.not_mem_nil, or_false] at mx
          rcases mx with rfl | rfl | rfl | rfl | rfl | rfl | rfl | rfl <;> exact ⟨_, rfl, by decide +kernel⟩
        have K46 : Kp p H4 H6 := (Kp.ex e5 P4).trans K6'
        have hl6 := K46.k _ _ nlp hl4
        have ap6 := K46.a l nlp (some_ne hl4) ap4
        have hpos : 0 < ps.length := List.length_pos_iff.mpr hne
        refine ⟨_, rfl, _, rfl, _, rfl, .ref l, ps.length, rfl, .inl ⟨_, sq_of hl6, by rw [List.length_map]⟩, p, _, rfl, P6, by omega, by omega, fun e H7 e0 e1 K7 P7 => ?_⟩
        have hl7 := K7.k _ _ nlp hl6
        have ap7 := K7.a l nlp (some_ne hl6) ap6
        have hix : ixN (ps.map V.str).length e = some e.toNat := by
          unfold ixN
          rw [List.length_map, if_pos e0, if_pos e1]
        refine ⟨l, _, e, e.toNat, rfl, rfl, hl7, hix, l, ps.set e.toNat s2, rfl, by rw [upd_same, List.map_set], ?_, ?_, (K04.trans (K46.trans K7)).mut l0 nlp, P7.mut nlp ap7⟩
        · intro z
          have := congrArg List.length z
          rw [List.length_set] at this
          exact hne (List.eq_nil_of_length_eq_zero this)
        · have h1 := wt_set (ps := ps) (j := e.toNat) (x := s2)
          omega
    · rintro σ' H' ⟨l', qs, rfl, hl', qn, qw, K', P'⟩
      have jl := jn_len qn
      refine ⟨⟨_, rfl⟩, _, rfl, sp1, l', qs, rfl, rfl, .inl (sq_of hl'), ?_, ?_⟩
      · have s1l : sp1.length = 1 := by decide +kernel
        rw [s1l, Nat.mul_one]
        have : (qs.map (·.length)).sum + qs.length = wt qs := rfl
        omega
      · rw [show Txt.join sp1 qs = Str.join sp1 qs from join_eq _ _]
        exact k _ _ (by omega) K' P'
abbrev s__law_told : Stmt := top 57
theorem sc__law_told : FnScope ["_law_call", "_law_thing", "_law_said", "e"] ["_law_call", "_law_thing"] (defScope s__law_told) := ⟨rfl, rfl, rfl, by decide +kernel, rfl, by decide +kernel, by decide +kernel⟩
def spTold (fw fr : Addr) : Sp := fun vs H Q _ => ∃ g v, vs = [.ref g, v] ∧
  ((g = fw ∧ ∃ p n d, At p n H v d ∧ H p ≠ none ∧ ∀ T H', Ex H H' → At p (n + 2) H' (.ref T) (tellW d) → Q (.ref T) H') ∨
   (g = fr ∧ ∃ p, Pl H v ∧ H p ≠ none ∧ (isS v = false → ∀ T H', Ex H H' → At p 3 H' (.ref T) (.tuple [.str tText, .int (-1)]) → Q (.ref T) H') ∧
     ∀ t, v = .str t → t.length ≤ 1000 ∧ ∀ T H', Ex H H' → At p 3 H' (.ref T) (tellR t) → Q (.ref T) H'))
theorem ok_told {fw fr C_BadText C_BadWish : Addr} {fdw fdr : FuncData} (R : Er K mg C_BadText C_BadWish) (F_worded : FnOk P w K mg base (L2.CX P w) 5 fw fdw ["wish"] (spWordedG C_BadWish)) (k_worded : PySem.W.keepIn K (.ref fw) = true) (b_worded : Binds K fdw ["wish"] [])
    (F_read_wish : FnOk P w K mg base (L2.CX P w) 5 fr fdr ["text"] (spReadG C_BadText)) (k_read_wish : PySem.W.keepIn K (.ref fr) = true) (b_read_wish : Binds K fdr ["text"] []) (D : Df K mg "_law_told" s__law_told f fd ["_law_call", "_law_thing"]) : Callee P w K mg base CXn 6 "_law_told" 2 (spTold fw fr) := by
  have g_BadText := R.gT
  have g_BadWish := R.gW
  have xf_BadText := R.xT
  have xf_BadWish := R.xW
  have no_BadText := R.nT
  have no_BadWish := R.nW
  refine D.callee (D.fn.ok sc__law_told (fun vs H Q E h => ?_) (fun cdv A outer s H vs Q E hr h => ⟨_, (pss_cons (ps_set (i := 2) sc__law_told.nd rfl (Or.inl rfl) pe_non) (pss_cons (ps_try_asM (tb := _) rfl rfl sc__law_told.nd takes0 (fun W pn xe tk po => (pss_one (ps_set (i := 2) sc__law_told.nd rfl (Or.inl rfl) (pe_tup (pa_cons pe_str (pa_cons (WW.pe_or (pe_callLS (i := 0) F_worded (hr.mono (by decide)) rfl (Or.inl rfl) k_worded b_worded (fun σ => passAt tk σ) (pa_cons (pv 1) pa_nil)) (pe_callLS (i := 0) F_read_wish (hr.mono (by decide)) rfl (Or.inl rfl) k_read_wish b_read_wish (fun σ => passAt tk σ) (pa_cons (pv 1) pa_nil))) pa_nil)))))) (HdsAs.clause (c := .ref C_BadText) ⟨rfl, by decide, .inl g_BadText⟩ (i := 3) rfl rfl (fun a oe cls d pn hz hf => (pss_one (ps_set (i := 2) sc__law_told.nd rfl (Or.inl rfl) (pe_tup (pa_cons pe_str (pa_cons (pe_xf xf_BadText no_BadText hz hf (pv 3)) pa_nil)))))) (HdsAs.clause (c := .ref C_BadWish) ⟨rfl, by decide, .inl g_BadWish⟩ (i := 3) rfl rfl (fun a oe cls d pn hz hf => (pss_one (ps_set (i := 2) sc__law_told.nd rfl (Or.inl rfl) (pe_tup (pa_cons pe_str (pa_cons (pe_xf xf_BadWish no_BadWish hz hf (pv 3)) pa_nil)))))) HdsAs.done))) (pss_one (ps_ret (pv 2))))), ?_⟩))
  · obtain ⟨_, _, rfl, _⟩ := h
    rfl
  · obtain ⟨g, v, rfl, ⟨rfl, p, n, d, hv, hp, k⟩ | ⟨rfl, p, hv, hp, bad, txt⟩⟩ := h
    · refine .inl ⟨rfl, _, rfl, p, n, v, d, rfl, hv, fun hf H1 dd e1 hd => ?_, fun hf H1 e1 => ?_⟩
      · refine ⟨false, R.mWT, (fun z => nomatch z), fun _ => ⟨true, R.mWW, fun _ a ha => ?_, fun z => nomatch z⟩⟩
        have e2 : Ex H1 (upd H1 dd (.xd [("value", v)])) := Ex.new hd
        refine ⟨.ref a, rfl, rfl, rfl, dd, _, v, rfl, upd_same, rfl, ?_⟩
        refine ⟨(by show 2 ≤ sizeLine; decide), fun T hT => ⟨_, rfl, ?_⟩⟩
        have e3 : Ex H _ := e1.trans (e2.trans (Ex.new (o := .tup [.str tWish, v]) hT))
        refine k T _ e3 ?_
        unfold tellW
        rw [hf, if_neg (by decide)]
        exact At.up (At.tup (np_new hp (e1.trans e2) hT) upd_same (by show 2 ≤ 2000; decide) (.cons (At.leaf (LfD.str (by decide +kernel))) (.cons (hv.ex e3) .nil)))
      · refine ⟨(by show 2 ≤ sizeLine; decide), fun T hT => ⟨_, rfl, ?_⟩⟩
        have e3 : Ex H _ := e1.trans (Ex.new (o := .tup [.str tTold, .str (textD d)]) hT)
        refine k T _ e3 ?_
        unfold tellW
        rw [if_pos hf]
        exact At.up (At.tup (np_new hp e1 hT) upd_same (by show 2 ≤ 2000; decide) (.cons (At.leaf (LfD.str (by decide +kernel))) (.cons (At.leaf (LfD.str (Nat.le_trans (hv.textLen hf) (by decide)))) .nil)))
    · refine .inr ⟨rfl, _, rfl, p, v, rfl, hv, hp, fun hs H1 dd e1 hd => ?_, fun t ht => ?_⟩
      · refine ⟨true, R.mTT, fun _ a ha => ?_, fun z => nomatch z⟩
        have e2 : Ex H1 (upd H1 dd (.xd [("at", .int (-1))])) := Ex.new hd
        refine ⟨.ref a, rfl, rfl, rfl, dd, _, .int (-1), rfl, upd_same, rfl, ?_⟩
        refine ⟨(by show 2 ≤ sizeLine; decide), fun T hT => ⟨_, rfl, ?_⟩⟩
        have e3 : Ex H _ := e1.trans (e2.trans (Ex.new (o := .tup [.str tText, .int (-1)]) hT))
        exact bad hs T _ e3 (At.up (At.up (At.tup (np_new hp (e1.trans e2) hT) upd_same (by show 2 ≤ 2000; decide) (.cons (At.leaf (LfD.str (by decide +kernel))) (.cons (At.leaf rfl) .nil)))))
      · obtain ⟨tl1, k⟩ := txt t ht
        refine ⟨tl1, fun hf H1 dd e1 hd => ?_, fun hf x H1 e1 hx => ?_⟩
        · refine ⟨true, R.mTT, fun _ a ha => ?_, fun z => nomatch z⟩
          have e2 : Ex H1 (upd H1 dd (.xd [("at", .int 0)])) := Ex.new hd
          refine ⟨.ref a, rfl, rfl, rfl, dd, _, .int 0, rfl, upd_same, rfl, ?_⟩
          refine ⟨(by show 2 ≤ sizeLine; decide), fun T hT => ⟨_, rfl, ?_⟩⟩
          have e3 : Ex H _ := e1.trans (e2.trans (Ex.new (o := .tup [.str tText, .int 0]) hT))
          refine k T _ e3 ?_
          unfold tellR
          rw [hf, if_neg (by decide)]
          exact At.up (At.up (At.tup (np_new hp (e1.trans e2) hT) upd_same (by show 2 ≤ 2000; decide) (.cons (At.leaf (LfD.str (by decide +kernel))) (.cons (At.leaf rfl) .nil))))
        · refine ⟨(by show 2 ≤ sizeLine; decide), fun T hT => ⟨_, rfl, ?_⟩⟩
          have e3 : Ex H _ := e1.trans (Ex.new (o := .tup [.str tTold, x]) hT)
          refine k T _ e3 ?_
          unfold tellR
          rw [if_pos hf]
          exact At.tup (np_new hp e1 hT) upd_same (by show 2 ≤ 2000; decide) (.cons (At.leaf (LfD.str (by decide +kernel))) (.cons (hx.ex (Ex.new hT)) .nil))
end
/-! ### a wish that is read -/
def spRead0 : Sp := fun vs H Q _ => ∃ p t, vs = [.str t] ∧ t.length ≤ 1000 ∧ H p ≠ none ∧ formD (raw numP (Txt.split t sp1)) = true ∧ ∀ x H', Ex H H' → At p 2 H' x (raw numP (Txt.split t sp1)) → Q x H'
theorem read0 {C : Addr} (vs : List V) (H : Hp) (Q : VK) (E : XK) (h : spRead0 vs H Q E) : spReadG C vs H Q E := by
  obtain ⟨p, t, rfl, tl1, hp, hf, k⟩ := h
  refine ⟨p, .str t, rfl, .str t, hp, (fun z => nomatch (show true = false from z)), fun u e => ?_⟩
  cases e
  exact ⟨tl1, fun z => absurd (hf.symm.trans z) (by decide), fun _ => k⟩
end WK

set_option Elab.async false
set_option linter.all false
set_option maxRecDepth 100000
set_option maxHeartbeats 4000000
namespace WK
open PySem PySem.Spec PyProof.Rows L2 WW Evl TL
def Odd3 (p : Addr) (H : Hp) (x : V) : Prop := ∃ d, At p 3 H x d
theorem Odd3.ex {p : Addr} {H H' : Hp} {x : V} (e : Ex H H') (h : Odd3 p H x) : Odd3 p H' x := h.imp fun _ z => z.ex e
theorem odd_nil {p : Addr} {H : Hp} : ∀ x ∈ ([] : List V), Odd3 p H x := fun _ z => nomatch z
theorem odd_cons {p : Addr} {H : Hp} {x : V} {xs : List V} (h : Odd3 p H x) (t : ∀ y ∈ xs, Odd3 p H y) : ∀ y ∈ x :: xs, Odd3 p H y := fun y hy => (List.mem_cons.mp hy).elim (fun e => e ▸ h) (t y)
/-- a list of odd things -/
structure OL (p : Addr) (n : Nat) (H : Hp) (l : Addr) (os : List V) : Prop where
  at_ : H l = some (.lst os)
  np : l ≠ p
  ne : os ≠ []
  le : os.length ≤ n
  each : ∀ x ∈ os, Odd3 p H x
theorem OL.ex {p : Addr} {n : Nat} {H H' : Hp} {l : Addr} {os : List V} (A : OL p n H l os) (e : Ex H H') : OL p n H' l os := ⟨e _ _ A.at_, A.np, A.ne, A.le, fun x hx => (A.each x hx).ex e⟩
theorem OL.mono {p : Addr} {n m : Nat} {H : Hp} {l : Addr} {os : List V} (A : OL p n H l os) (h : n ≤ m) : OL p m H l os := ⟨A.at_, A.np, A.ne, Nat.le_trans A.le h, A.each⟩
theorem np_pool {p t : Addr} {H : Hp} (hP : Pool H p) (ht : H t = none) : t ≠ p := fun z => hP.here (z ▸ ht)
theorem mkT {p t : Addr} {n : Nat} {H : Hp} {xs : List V} {ds : List PyData} (hP : Pool H p) (ht : H t = none) (l : xs.length ≤ 2000) (q : Paired (At p n H) xs ds) :
    ∃ H', H' = upd H t (.tup xs) ∧ Ex H H' ∧ Pool H' p ∧ At p (n + 1) H' (.ref t) (.tuple ds) ∧ H' t = some (.tup xs) ∧ t ≠ p :=
  ⟨_, rfl, Ex.new ht, hP.ex (Ex.new ht), At.tup (np_pool hP ht) upd_same l (Paired.mapP q fun _ _ z => z.ex (Ex.new ht)), upd_same, np_pool hP ht⟩
theorem mkL {p t : Addr} {n : Nat} {H : Hp} {xs : List V} {ds : List PyData} (hP : Pool H p) (ht : H t = none) (l : xs.length ≤ 2000) (q : Paired (At p n H) xs ds) :
    ∃ H', H' = upd H t (.lst xs) ∧ Ex H H' ∧ Pool H' p ∧ At p (n + 1) H' (.ref t) (.list ds) ∧ H' t = some (.lst xs) ∧ t ≠ p :=
  ⟨_, rfl, Ex.new ht, hP.ex (Ex.new ht), At.lst (np_pool hP ht) upd_same l (Paired.mapP q fun _ _ z => z.ex (Ex.new ht)), upd_same, np_pool hP ht⟩
theorem mkO {p t : Addr} {n : Nat} {H : Hp} {xs : List V} (hP : Pool H p) (ht : H t = none) (each : ∀ x ∈ xs, Odd3 p H x) (ne : xs ≠ []) (l : xs.length ≤ n) :
    ∃ H', H' = upd H t (.lst xs) ∧ Ex H H' ∧ Pool H' p ∧ OL p n H' t xs :=
  ⟨_, rfl, Ex.new ht, hP.ex (Ex.new ht), upd_same, np_pool hP ht, ne, l, fun x hx => (each x hx).ex (Ex.new ht)⟩
theorem OL.cat {p l1 l2 t : Addr} {n m : Nat} {H : Hp} {xs ys : List V} (A : OL p n H l1 xs) (B : OL p m H l2 ys) (hP : Pool H p) (ht : H t = none) :
    ∃ H', H' = upd H t (.lst (xs ++ ys)) ∧ Ex H H' ∧ Pool H' p ∧ OL p (n + m) H' t (xs ++ ys) :=
  ⟨_, rfl, Ex.new ht, hP.ex (Ex.new ht), upd_same, np_pool hP ht, fun z => A.ne (List.append_eq_nil_iff.mp z).1, by rw [List.length_append]; exact Nat.add_le_add A.le B.le, fun x hx => ((List.mem_append.mp hx).elim (A.each x) (B.each x)).ex (Ex.new ht)⟩
theorem pr_ex {p : Addr} {n : Nat} {H H' : Hp} {xs : List V} {ds : List PyData} (q : Paired (At p n H) xs ds) (e : Ex H H') : Paired (At p n H') xs ds := Paired.mapP q fun _ _ z => z.ex e
theorem prd_app {α β : Type} {R : α → β → Prop} : ∀ {xs ys : List α} {us vs : List β}, Paired R xs us → Paired R ys vs → Paired R (xs ++ ys) (us ++ vs)
  | _, _, _, _, .nil, h => h
  | _, _, _, _, .cons g r, h => .cons g (prd_app r h)
theorem prd_take {α β : Type} {R : α → β → Prop} : ∀ {xs : List α} {us : List β}, Paired R xs us → ∀ k, Paired R (xs.take k) (us.take k)
  | _, _, _, 0 => .nil
  | _, _, .nil, _ + 1 => .nil
  | _, _, .cons g r, k + 1 => .cons g (prd_take r k)
theorem sIx_m1 (n d : Nat) : HT.sIx n d (some (-1)) = n - 1 := by
  show (if (-1 : Int) < 0 then ((-1 : Int) + (n : Int)).toNat else min (-1 : Int).toNat n) = n - 1
  rw [if_pos (by decide)]
  omega
theorem sIx_2 (n d : Nat) : HT.sIx n d (some 2) = min 2 n := HT.sIx_nat n d 2
theorem cut_m1 (xs : List V) : cutV xs none (some (-1)) = xs.take (xs.length - 1) := by
  unfold cutV
  rw [HT.sIx_none, sIx_m1]
  simp
theorem cut_2 (xs : List V) : cutV xs none (some 2) = xs.take 2 := cut_take xs 2
/-- at N, which came behind HB, a list of odd things is made -/
structure Made (p N : Addr) (HB H : Hp) (ys : List V) : Prop where
  e : Ex HB H
  new : HB N = none
  at_ : H N = some (.lst ys)
  pool : Pool H p
  np : N ≠ p
  ap : Apart H p N
  each : ∀ y ∈ ys, ∃ q us ds, y = .ref q ∧ q ≠ p ∧ q ≠ N ∧ H q = some (.tup us) ∧ us.length ≤ 2000 ∧ Paired (At p 2 HB) us ds
theorem Made.poolN {p N : Addr} {HB H : Hp} {ys : List V} (M : Made p N HB H ys) : H p ≠ none := M.pool.here
theorem Made.inN {p N : Addr} {HB H : Hp} {ys : List V} (M : Made p N HB H ys) : H N ≠ none := some_ne M.at_
theorem Made.start {p N : Addr} {HB : Hp} (hP : Pool HB p) (hN : HB N = none) : Made p N HB (upd HB N (.lst [])) [] :=
  ⟨Ex.new hN, hN, upd_same, hP.ex (Ex.new hN), np_pool hP hN, (Apart.new hP hN).2, fun _ z => nomatch z⟩
theorem Made.put {p N q : Addr} {HB H H5 : Hp} {ys us : List V} {ds : List PyData} (M : Made p N HB H ys) (E : Ex H H5) (np : q ≠ p) (nN : q ≠ N) (gq : H5 q = some (.tup us)) (l : us.length ≤ 2000) (pr : Paired (At p 2 HB) us ds) :
    Made p N HB (upd H5 N (.lst (ys ++ [.ref q]))) (ys ++ [.ref q]) := by
  have ap5 := (Kp.ex E M.pool).a N M.np M.inN M.ap
  refine ⟨(M.e.trans E).mut M.new, M.new, upd_same, (M.pool.ex E).mut M.np ap5, M.np, Apart.mut M.np ap5, fun y hy => ?_⟩
  rcases List.mem_append.mp hy with hy | hy
  · obtain ⟨q', us', ds', e, n1, n2, h, l', pr'⟩ := M.each y hy
    exact ⟨q', us', ds', e, n1, n2, by rw [upd_ne n2]; exact E _ _ h, l', pr'⟩
  · rw [List.mem_singleton.mp hy]
    exact ⟨q, us, ds, rfl, np, nN, by rw [upd_ne nN]; exact gq, l, pr⟩
theorem Made.ol {p N : Addr} {n : Nat} {HB H : Hp} {ys : List V} (M : Made p N HB H ys) (ne : ys ≠ []) (l : ys.length ≤ n) : OL p n H N ys :=
  ⟨M.at_, M.np, ne, l, fun y hy => let ⟨_, _, _, e, n1, _, h, l', pr'⟩ := M.each y hy; e ▸ ⟨_, At.tup n1 h l' (Paired.mapP pr' fun _ _ z => z.ex M.e)⟩⟩
theorem form_tup {d : PyData} (h : formD d = true) : ∃ ds, d = .tuple ds ∧ ds ≠ [] ∧ ds.length ≤ 3 := by
  rcases form_cases h with rfl | ⟨z, i, rfl | rfl, _⟩ | ⟨z, b, rfl, _⟩ | ⟨x, y, rfl, _⟩ <;> exact ⟨_, rfl, (fun z => nomatch z), by simp⟩
section
variable {P : Program} {w : World} {K : PySem.W.Frag} {mg : Str → Option Value} {base : Heap} {f : Addr} {fd : FuncData}
abbrev s__law_odd_wish : Stmt := top 47
theorem sc__law_odd_wish : FnScope ["_law_pool_here", "_law_wish", "_law_odd", "_law_value"] ["_law_pool_here", "_law_wish"] (defScope s__law_odd_wish) := ⟨rfl, rfl, rfl, by decide +kernel, rfl, by decide +kernel, by decide +kernel⟩
def spOdd : Sp := fun vs H Q _ => ∃ p v d, vs = [.ref p, v] ∧ Pool H p ∧ At p 2 H v d ∧ formD d = true ∧ ∀ x d' H', At p 3 H' x d' → Kp p H H' → Pool H' p → Q x H'
theorem ok_odd (G : Gz mg) (D : Df K mg "_law_odd_wish" s__law_odd_wish f fd ["_law_pool_here", "_law_wish"]) (c__law_pick : Callee P w K mg base CXn 2 "_law_pick" 2 spPick) : Callee P w K mg base CXn 3 "_law_odd_wish" 2 spOdd := by
  refine D.callee (D.fn.ok sc__law_odd_wish (fun vs H Q E h => ?_) (fun cdv A outer s H vs Q E hr h => ⟨_, PSs.nox (pss_cons (ps_set (i := 2) sc__law_odd_wish.nd rfl (Or.inl rfl) (pe_lst (pa_cons pe_non (pa_cons (pe_tup pa_nil) (pa_cons pe_str (pa_cons (pe_lst (pa_cons pe_str pa_nil)) (pa_cons (pe_tup (pa_cons pe_str (pa_cons pe_non pa_nil))) (pa_cons (pe_tup (pa_cons pe_str pa_nil)) (pa_cons (pe_tup (pa_cons pe_str (pa_cons pe_str (pa_cons pe_int pa_nil)))) (pa_cons (pe_tup (pa_cons pe_str (pa_cons (pe_tup pa_nil) (pa_cons (pe_lst (pa_cons pe_str pa_nil)) pa_nil)))) pa_nil)))))))))) (pss_cons (ps_set (i := 2) sc__law_odd_wish.nd rfl (Or.inl rfl) (pe_op op_cat (pv 2) (pe_lst (pa_cons (pe_tup (pa_cons pe_str (pa_cons (pe_tup (pa_cons pe_str (pa_cons pe_str pa_nil))) (pa_cons (pe_tup pa_nil) pa_nil)))) (pa_cons (pe_tup (pa_cons pe_str (pa_cons (pe_tup (pa_cons pe_str (pa_cons pe_str pa_nil))) (pa_cons (pe_tup pa_nil) pa_nil)))) (pa_cons (pe_tup (pa_cons pe_str (pa_cons (pe_tup pa_nil) (pa_cons (pe_tup (pa_cons pe_str pa_nil)) pa_nil)))) (pa_cons (pe_tup (pa_cons pe_str (pa_cons pe_non (pa_cons pe_bl pa_nil)))) pa_nil))))))) (pss_cons (ps_set (i := 2) sc__law_odd_wish.nd rfl (Or.inl rfl) (pe_op op_cat (pv 2) (pe_lst (pa_cons (pe_tup (pa_cons pe_non pa_nil)) (pa_cons (pe_op op_catA (pv 1) (pe_tup (pa_cons pe_int pa_nil))) (pa_cons (pe_slice (slAK (K := K) rfl) (pv 1) po_none (po_some (pe_un un_neg pe_int))) (pa_cons (pe_callTy (listOfK (K := K) rfl) rfl G.g_list (by rfl) (pa_cons (pv 1) pa_nil)) (pa_cons (pe_tup (pa_cons (pv 1) pa_nil)) (pa_cons (pe_tup (pa_cons pe_str (pa_cons (pe_tup pa_nil) (pa_cons (pe_tup (pa_cons pe_str pa_nil)) pa_nil)))) pa_nil))))))))) (pss_cut (ps_if (pt_cmpR op_eq (pe_callB (lenK (K := K) rfl) rfl G.g_len PySem.boot_len (pa_cons (pv 1) pa_nil)) pe_int (nomark _)) (pss_cons (ps_set (i := 2) sc__law_odd_wish.nd rfl (Or.inl rfl) (pe_op op_cat (pv 2) (pe_lc (own := [("_law_value", 3)]) rfl sc__law_odd_wish.nd (pi_list (pe_lst (pa_cons pe_non (pa_cons (pe_un un_neg pe_int) (pa_cons pe_int (pa_cons pe_bl (pa_cons pe_int (pa_cons pe_str (pa_cons pe_int (pa_cons (pe_tup pa_nil) (pa_cons pe_int pa_nil))))))))))) (BlkOk.mk (N := ["_law_pool_here", "_law_wish", "_law_odd", "_law_value"]) (sc := defScope s__law_odd_wish) rfl (by decide +kernel) (by decide +kernel) (by decide +kernel) (by decide +kernel)) (fun _ _ _ _ _ => (pg_name (i := 3) sc__law_odd_wish.nd rfl (Or.inl rfl))) (fun _ _ _ _ _ => pts_nil) (fun _ _ _ _ _ => (pe_op (catAK (K := K) rfl) (pe_slice (slAK (K := K) rfl) (pv 1) po_none (po_some pe_int)) (pe_tup (pa_cons (pv 3) pa_nil))))))) (pss_one (ps_set (i := 2) sc__law_odd_wish.nd rfl (Or.inl rfl) (pe_op op_cat (pv 2) (pe_lc (own := [("_law_value", 3)]) rfl sc__law_odd_wish.nd (pi_list (pe_lst (pa_cons pe_str (pa_cons pe_int (pa_cons (pe_tup (pa_cons pe_str pa_nil)) (pa_cons pe_non (pa_cons (pe_tup pa_nil) pa_nil))))))) (BlkOk.mk (N := ["_law_pool_here", "_law_wish", "_law_odd", "_law_value"]) (sc := defScope s__law_odd_wish) rfl (by decide +kernel) (by decide +kernel) (by decide +kernel) (by decide +kernel)) (fun _ _ _ _ _ => (pg_name (i := 3) sc__law_odd_wish.nd rfl (Or.inl rfl))) (fun _ _ _ _ _ => pts_nil) (fun _ _ _ _ _ => (pe_tup (pa_cons (pe_ix (ixK (K := K) rfl) (pv 1) pe_int (fun _ _ => rfl)) (pa_cons (pv 3) (pa_cons (pe_ix (ixK (K := K) rfl) (pv 1) pe_int (fun _ _ => rfl)) pa_nil)))))))))) pss_nil) (pss_one (ps_ret (pe_cl (E := En) c__law_pick (hr.mono (by decide)) rfl passN (pa_cons (pv 0) (pa_cons (pv 2) pa_nil))))))))), ?_⟩))
  · obtain ⟨_, _, _, rfl, _⟩ := h
    rfl
  · obtain ⟨p, v, d, rfl, hP, hv, hf, k⟩ := h
    obtain ⟨ds, rfl, dne, d3⟩ := form_tup hf
    obtain ⟨m', a, xs, em, rfl, np, ha, xl, pr⟩ := hv.tups
    have e1 : m' = 1 := by omega
    subst e1
    have xlen : xs.length = ds.length := prd_len pr
    have xpos : 0 < xs.length := by rw [xlen]; exact List.length_pos_iff.mpr dne
    have xne : xs ≠ [] := fun z => by rw [z] at xpos; exact absurd xpos (by decide)
    have xl3 : xs.length ≤ 3 := by omega
    clear dne em
    refine ⟨Nat.zero_le _, fun t1 h1 => ?_⟩
    obtain ⟨H1, q1, e1, P1, a1, g1, n1⟩ := mkT hP h1 (xs := []) (ds := []) (n := 0) (by show 0 ≤ 2000; decide) .nil
    rw [← q1]
    clear q1
    have E1 : Ex H H1 := (Ex.refl H).trans e1
    refine ⟨(by show 1 ≤ sizeLine; decide), fun t2 h2 => ?_⟩
    obtain ⟨H2, q2, e2, P2, a2, g2, n2⟩ := mkL P1 h2 (xs := [.str "kept"]) (ds := [.str "kept"]) (n := 0) (by show 1 ≤ 2000; decide) (.cons (At.leaf (LfD.str (by decide +kernel))) .nil)
    rw [← q2]
    clear q2
    have E2 : Ex H H2 := E1.trans e2
    refine ⟨(by show 2 ≤ sizeLine; decide), fun t3 h3 => ?_⟩
    obtain ⟨H3, q3, e3, P3, a3, g3, n3⟩ := mkT P2 h3 (xs := [.str "kept", .non]) (ds := [.str "kept", .none]) (n := 0) (by show 2 ≤ 2000; decide) (.cons (At.leaf (LfD.str (by decide +kernel))) (.cons (At.leaf rfl) .nil))
    rw [← q3]
    clear q3
    have E3 : Ex H H3 := E2.trans e3
    refine ⟨(by show 1 ≤ sizeLine; decide), fun t4 h4 => ?_⟩
    obtain ⟨H4, q4, e4, P4, a4, g4, n4⟩ := mkT P3 h4 (xs := [.str "told"]) (ds := [.str "told"]) (n := 0) (by show 1 ≤ 2000; decide) (.cons (At.leaf (LfD.str (by decide +kernel))) .nil)
    rw [← q4]
    clear q4
    have E4 : Ex H H4 := E3.trans e4
    refine ⟨(by show 3 ≤ sizeLine; decide), fun t5 h5 => ?_⟩
    obtain ⟨H5, q5, e5, P5, a5, g5, n5⟩ := mkT P4 h5 (xs := [.str "told", .str "Q", .int (0)]) (ds := [.str "told", .str "Q", .int (0)]) (n := 0) (by show 3 ≤ 2000; decide) (.cons (At.leaf (LfD.str (by decide +kernel))) (.cons (At.leaf (LfD.str (by decide +kernel))) (.cons (At.leaf rfl) .nil)))
    rw [← q5]
    clear q5
    have E5 : Ex H H5 := E4.trans e5
    refine ⟨Nat.zero_le _, fun t6 h6 => ?_⟩
    obtain ⟨H6, q6, e6, P6, a6, g6, n6⟩ := mkT P5 h6 (xs := []) (ds := []) (n := 0) (by show 0 ≤ 2000; decide) .nil
    rw [← q6]
    clear q6
    have E6 : Ex H H6 := E5.trans e6
    refine ⟨(by show 1 ≤ sizeLine; decide), fun t7 h7 => ?_⟩
    obtain ⟨H7, q7, e7, P7, a7, g7, n7⟩ := mkL P6 h7 (xs := [.str "a"]) (ds := [.str "a"]) (n := 0) (by show 1 ≤ 2000; decide) (.cons (At.leaf (LfD.str (by decide +kernel))) .nil)
    rw [← q7]
    clear q7
    have E7 : Ex H H7 := E6.trans e7
    refine ⟨(by show 3 ≤ sizeLine; decide), fun t8 h8 => ?_⟩
    obtain ⟨H8, q8, e8, P8, a8, g8, n8⟩ := mkT P7 h8 (xs := [.str "sure", .ref t6, .ref t7]) (ds := [.str "sure", (.tuple []), (.list [.str "a"])]) (n := 1) (by show 3 ≤ 2000; decide) (.cons (At.leaf (LfD.str (by decide +kernel))) (.cons (a6.ex e7) (.cons (a7.ex (Ex.refl H7)) .nil)))
    rw [← q8]
    clear q8
    have E8 : Ex H H8 := E7.trans e8
    refine ⟨(by show 8 ≤ sizeLine; decide), fun t9 h9 => ?_⟩
    obtain ⟨H9, q9, e9, P9, B9⟩ := mkO P8 h9 (xs := [.non, .ref t1, .str "kept", .ref t2, .ref t3, .ref t4, .ref t5, .ref t8]) (n := 8) (odd_cons ⟨_, (At.leaf rfl)⟩ (odd_cons ⟨_, (At.up (At.up (a1.ex (e2.trans (e3.trans (e4.trans (e5.trans (e6.trans (e7.trans e8)))))))))⟩ (odd_cons ⟨_, (At.leaf (LfD.str (by decide +kernel)))⟩ (odd_cons ⟨_, (At.up (At.up (a2.ex (e3.trans (e4.trans (e5.trans (e6.trans (e7.trans e8))))))))⟩ (odd_cons ⟨_, (At.up (At.up (a3.ex (e4.trans (e5.trans (e6.trans (e7.trans e8)))))))⟩ (odd_cons ⟨_, (At.up (At.up (a4.ex (e5.trans (e6.trans (e7.trans e8))))))⟩ (odd_cons ⟨_, (At.up (At.up (a5.ex (e6.trans (e7.trans e8)))))⟩ (odd_cons ⟨_, (At.up (a8.ex (Ex.refl H8)))⟩ odd_nil)))))))) (List.cons_ne_nil _ _) (by show 8 ≤ 8; decide)
    rw [← q9]
    clear q9
    have E9 : Ex H H9 := E8.trans e9
    refine ⟨_, rfl, ?_⟩
    refine ⟨(by show 2 ≤ sizeLine; decide), fun t10 h10 => ?_⟩
    obtain ⟨H10, q10, e10, P10, a10, g10, n10⟩ := mkT P9 h10 (xs := [.str "b", .str "a"]) (ds := [.str "b", .str "a"]) (n := 0) (by show 2 ≤ 2000; decide) (.cons (At.leaf (LfD.str (by decide +kernel))) (.cons (At.leaf (LfD.str (by decide +kernel))) .nil))
    rw [← q10]
    clear q10
    have E10 : Ex H H10 := E9.trans e10
    refine ⟨Nat.zero_le _, fun t11 h11 => ?_⟩
    obtain ⟨H11, q11, e11, P11, a11, g11, n11⟩ := mkT P10 h11 (xs := []) (ds := []) (n := 0) (by show 0 ≤ 2000; decide) .nil
    rw [← q11]
    clear q11
    have E11 : Ex H H11 := E10.trans e11
    refine ⟨(by show 3 ≤ sizeLine; decide), fun t12 h12 => ?_⟩
    obtain ⟨H12, q12, e12, P12, a12, g12, n12⟩ := mkT P11 h12 (xs := [.str "sure", .ref t10, .ref t11]) (ds := [.str "sure", (.tuple [.str "b", .str "a"]), (.tuple [])]) (n := 1) (by show 3 ≤ 2000; decide) (.cons (At.leaf (LfD.str (by decide +kernel))) (.cons (a10.ex e11) (.cons (a11.ex (Ex.refl H11)) .nil)))
    rw [← q12]
    clear q12
    have E12 : Ex H H12 := E11.trans e12
    refine ⟨(by show 2 ≤ sizeLine; decide), fun t13 h13 => ?_⟩
    obtain ⟨H13, q13, e13, P13, a13, g13, n13⟩ := mkT P12 h13 (xs := [.str "a", .str "a"]) (ds := [.str "a", .str "a"]) (n := 0) (by show 2 ≤ 2000; decide) (.cons (At.leaf (LfD.str (by decide +kernel))) (.cons (At.leaf (LfD.str (by decide +kernel))) .nil))
    rw [← q13]
    clear q13
    have E13 : Ex H H13 := E12.trans e13
    refine ⟨Nat.zero_le _, fun t14 h14 => ?_⟩
    obtain ⟨H14, q14, e14, P14, a14, g14, n14⟩ := mkT P13 h14 (xs := []) (ds := []) (n := 0) (by show 0 ≤ 2000; decide) .nil
    rw [← q14]
    clear q14
    have E14 : Ex H H14 := E13.trans e14
    refine ⟨(by show 3 ≤ sizeLine; decide), fun t15 h15 => ?_⟩
    obtain ⟨H15, q15, e15, P15, a15, g15, n15⟩ := mkT P14 h15 (xs := [.str "sure", .ref t13, .ref t14]) (ds := [.str "sure", (.tuple [.str "a", .str "a"]), (.tuple [])]) (n := 1) (by show 3 ≤ 2000; decide) (.cons (At.leaf (LfD.str (by decide +kernel))) (.cons (a13.ex e14) (.cons (a14.ex (Ex.refl H14)) .nil)))
    rw [← q15]
    clear q15
    have E15 : Ex H H15 := E14.trans e15
    refine ⟨Nat.zero_le _, fun t16 h16 => ?_⟩
    obtain ⟨H16, q16, e16, P16, a16, g16, n16⟩ := mkT P15 h16 (xs := []) (ds := []) (n := 0) (by show 0 ≤ 2000; decide) .nil
    rw [← q16]
    clear q16
    have E16 : Ex H H16 := E15.trans e16
    refine ⟨(by show 1 ≤ sizeLine; decide), fun t17 h17 => ?_⟩
    obtain ⟨H17, q17, e17, P17, a17, g17, n17⟩ := mkT P16 h17 (xs := [.str "A"]) (ds := [.str "A"]) (n := 0) (by show 1 ≤ 2000; decide) (.cons (At.leaf (LfD.str (by decide +kernel))) .nil)
    rw [← q17]
    clear q17
    have E17 : Ex H H17 := E16.trans e17
    refine ⟨(by show 3 ≤ sizeLine; decide), fun t18 h18 => ?_⟩
    obtain ⟨H18, q18, e18, P18, a18, g18, n18⟩ := mkT P17 h18 (xs := [.str "sure", .ref t16, .ref t17]) (ds := [.str "sure", (.tuple []), (.tuple [.str "A"])]) (n := 1) (by show 3 ≤ 2000; decide) (.cons (At.leaf (LfD.str (by decide +kernel))) (.cons (a16.ex e17) (.cons (a17.ex (Ex.refl H17)) .nil)))
    rw [← q18]
    clear q18
    have E18 : Ex H H18 := E17.trans e18
    refine ⟨(by show 3 ≤ sizeLine; decide), fun t19 h19 => ?_⟩
    obtain ⟨H19, q19, e19, P19, a19, g19, n19⟩ := mkT P18 h19 (xs := [.str "hidden", .non, .bl true]) (ds := [.str "hidden", .none, .bool true]) (n := 0) (by show 3 ≤ 2000; decide) (.cons (At.leaf (LfD.str (by decide +kernel))) (.cons (At.leaf rfl) (.cons (At.leaf rfl) .nil)))
    rw [← q19]
    clear q19
    have E19 : Ex H H19 := E18.trans e19
    refine ⟨(by show 4 ≤ sizeLine; decide), fun t20 h20 => ?_⟩
    obtain ⟨H20, q20, e20, P20, B20⟩ := mkO P19 h20 (xs := [.ref t12, .ref t15, .ref t18, .ref t19]) (n := 4) (odd_cons ⟨_, (At.up (a12.ex (e13.trans (e14.trans (e15.trans (e16.trans (e17.trans (e18.trans e19))))))))⟩ (odd_cons ⟨_, (At.up (a15.ex (e16.trans (e17.trans (e18.trans e19)))))⟩ (odd_cons ⟨_, (At.up (a18.ex e19))⟩ (odd_cons ⟨_, (At.up (At.up (a19.ex (Ex.refl H19))))⟩ odd_nil)))) (List.cons_ne_nil _ _) (by show 4 ≤ 4; decide)
    rw [← q20]
    clear q20
    have E20 : Ex H H20 := E19.trans e20
    have A21 := B9.ex (e10.trans (e11.trans (e12.trans (e13.trans (e14.trans (e15.trans (e16.trans (e17.trans (e18.trans (e19.trans e20))))))))))
    refine ⟨_, _, _, _, rfl, rfl, A21.at_, B20.at_, Nat.le_trans (Nat.add_le_add A21.le B20.le) (by decide), fun t21 h21 => ?_⟩
    obtain ⟨H21, q21, e21, P21, C21⟩ := OL.cat A21 B20 P20 h21 
    rw [← q21]
    clear q21
    have E21 : Ex H H21 := E20.trans e21
    refine ⟨_, rfl, ?_⟩
    refine ⟨(by show 1 ≤ sizeLine; decide), fun t22 h22 => ?_⟩
    obtain ⟨H22, q22, e22, P22, a22, g22, n22⟩ := mkT P21 h22 (xs := [.non]) (ds := [.none]) (n := 0) (by show 1 ≤ 2000; decide) (.cons (At.leaf rfl) .nil)
    rw [← q22]
    clear q22
    have E22 : Ex H H22 := E21.trans e22
    refine ⟨_, rfl, ?_⟩
    refine ⟨(by show 1 ≤ sizeLine; decide), fun t23 h23 => ?_⟩
    obtain ⟨H23, q23, e23, P23, a23, g23, n23⟩ := mkT P22 h23 (xs := [.int (0)]) (ds := [.int (0)]) (n := 0) (by show 1 ≤ 2000; decide) (.cons (At.leaf rfl) .nil)
    rw [← q23]
    clear q23
    have E23 : Ex H H23 := E22.trans e23
    refine ⟨_, _, _, _, rfl, rfl, st_of (E23 _ _ ha), st_of g23, Nat.le_trans (show xs.length + 1 ≤ 4 by omega) (by decide), fun z => absurd z xne, (fun _ z => nomatch z), fun _ _ t24 h24 => ?_⟩
    obtain ⟨H24, q24, e24, P24, a24, g24, n24⟩ := mkT P23 h24 (xs := xs ++ [.int 0]) (ds := ds ++ [.int 0]) (n := 1) (by rw [List.length_append]; show xs.length + 1 ≤ 2000; omega) (prd_app (pr_ex pr E23) (.cons (At.leaf (v := .int 0) (d := .int 0) rfl) .nil))
    rw [← q24]
    clear q24
    have E24 : Ex H H24 := E23.trans e24
    refine ⟨_, rfl, _, rfl, -1, rfl, ?_⟩
    refine ⟨a, xs, rfl, st_of (E24 _ _ ha), (fun z => absurd z.2 (by rw [sIx_m1]; omega)), fun _ t25 h25 => ?_⟩
    rw [cut_m1]
    obtain ⟨H25, q25, e25, P25, a25, g25, n25⟩ := mkT P24 h25 (xs := xs.take (xs.length - 1)) (ds := ds.take (xs.length - 1)) (n := 1) (by rw [List.length_take]; omega) (prd_take (pr_ex pr E24) _)
    rw [← q25]
    clear q25
    have E25 : Ex H H25 := E24.trans e25
    refine ⟨_, rfl, a, xs, rfl, .inr (st_of (E25 _ _ ha)), fun t26 h26 => ?_⟩
    obtain ⟨H26, q26, e26, P26, a26, g26, n26⟩ := mkL P25 h26 (xs := xs) (ds := ds) (n := 1) (by omega) (pr_ex pr E25)
    rw [← q26]
    clear q26
    have E26 : Ex H H26 := E25.trans e26
    refine ⟨_, rfl, ?_⟩
    refine ⟨(by show 1 ≤ sizeLine; decide), fun t27 h27 => ?_⟩
    obtain ⟨H27, q27, e27, P27, a27, g27, n27⟩ := mkT P26 h27 (xs := [.ref a]) (ds := [.tuple ds]) (n := 2) (by show 1 ≤ 2000; decide) (.cons (hv.ex E26) .nil)
    rw [← q27]
    clear q27
    have E27 : Ex H H27 := E26.trans e27
    refine ⟨Nat.zero_le _, fun t28 h28 => ?_⟩
    obtain ⟨H28, q28, e28, P28, a28, g28, n28⟩ := mkT P27 h28 (xs := []) (ds := []) (n := 0) (by show 0 ≤ 2000; decide) .nil
    rw [← q28]
    clear q28
    have E28 : Ex H H28 := E27.trans e28
    refine ⟨(by show 1 ≤ sizeLine; decide), fun t29 h29 => ?_⟩
    obtain ⟨H29, q29, e29, P29, a29, g29, n29⟩ := mkT P28 h29 (xs := [.str "abcdefghijk"]) (ds := [.str "abcdefghijk"]) (n := 0) (by show 1 ≤ 2000; decide) (.cons (At.leaf (LfD.str (by decide +kernel))) .nil)
    rw [← q29]
    clear q29
    have E29 : Ex H H29 := E28.trans e29
    refine ⟨(by show 3 ≤ sizeLine; decide), fun t30 h30 => ?_⟩
    obtain ⟨H30, q30, e30, P30, a30, g30, n30⟩ := mkT P29 h30 (xs := [.str "sure", .ref t28, .ref t29]) (ds := [.str "sure", (.tuple []), (.tuple [.str "abcdefghijk"])]) (n := 1) (by show 3 ≤ 2000; decide) (.cons (At.leaf (LfD.str (by decide +kernel))) (.cons (a28.ex e29) (.cons (a29.ex (Ex.refl H29)) .nil)))
    rw [← q30]
    clear q30
    have E30 : Ex H H30 := E29.trans e30
    refine ⟨(by show 6 ≤ sizeLine; decide), fun t31 h31 => ?_⟩
    obtain ⟨H31, q31, e31, P31, B31⟩ := mkO P30 h31 (xs := [.ref t22, .ref t24, .ref t25, .ref t26, .ref t27, .ref t30]) (n := 6) (odd_cons ⟨_, (At.up (At.up (a22.ex (e23.trans (e24.trans (e25.trans (e26.trans (e27.trans (e28.trans (e29.trans e30))))))))))⟩ (odd_cons ⟨_, (At.up (a24.ex (e25.trans (e26.trans (e27.trans (e28.trans (e29.trans e30)))))))⟩ (odd_cons ⟨_, (At.up (a25.ex (e26.trans (e27.trans (e28.trans (e29.trans e30))))))⟩ (odd_cons ⟨_, (At.up (a26.ex (e27.trans (e28.trans (e29.trans e30)))))⟩ (odd_cons ⟨_, (a27.ex (e28.trans (e29.trans e30)))⟩ (odd_cons ⟨_, (At.up (a30.ex (Ex.refl H30)))⟩ odd_nil)))))) (List.cons_ne_nil _ _) (by show 6 ≤ 6; decide)
    rw [← q31]
    clear q31
    have E31 : Ex H H31 := E30.trans e31
    have A32 := C21.ex (e22.trans (e23.trans (e24.trans (e25.trans (e26.trans (e27.trans (e28.trans (e29.trans (e30.trans e31)))))))))
    refine ⟨_, _, _, _, rfl, rfl, A32.at_, B31.at_, Nat.le_trans (Nat.add_le_add A32.le B31.le) (by decide), fun t32 h32 => ?_⟩
    obtain ⟨H32, q32, e32, P32, C32⟩ := OL.cat A32 B31 P31 h32 
    rw [← q32]
    clear q32
    have E32 : Ex H H32 := E31.trans e32
    have AO := C32
    -- behind the if
    refine ⟨fun σ' H' => ∃ q os, σ' = [some (.ref p), some (.ref a), some (.ref q), none] ∧ OL p 100 H' q os ∧ Ex H H' ∧ Pool H' p, ?_, ?_⟩
    rotate_left
    · rintro σ' H' ⟨q, os, rfl, A, E', P'⟩
      exact ⟨_, rfl, _, rfl, p, q, os, rfl, P', A.np, .inl A.at_, A.ne, Nat.le_trans A.le (by decide), fun x H2 mx K2 P2 => let ⟨d', h'⟩ := A.each x mx; k x d' H2 (Kp.at K2 h') ((Kp.ex E' hP).trans K2) P2⟩
    refine ⟨_, rfl, .ref a, xs.length, rfl, .inr ⟨_, st_of (E32 _ _ ha), rfl⟩, rfl, _, rfl, ?_⟩
    rw [intE]
    refine ite2 (fun h3 => ?_) (fun _ => ⟨_, _, rfl, AO.mono (by decide), E32, P32⟩)
    have x3 : xs.length = 3 := by have := of_decide_eq_true h3; omega
    refine ⟨_, rfl, ?_⟩
    refine ⟨_, rfl, ?_⟩
    refine ⟨Nat.zero_le _, fun t33 h33 => ?_⟩
    obtain ⟨H33, q33, e33, P33, a33, g33, n33⟩ := mkT P32 h33 (xs := []) (ds := []) (n := 0) (by show 0 ≤ 2000; decide) .nil
    rw [← q33]
    clear q33
    have E33 : Ex H H33 := E32.trans e33
    refine ⟨(by show 9 ≤ sizeLine; decide), fun t34 h34 => ?_⟩
    obtain ⟨H34, q34, e34, P34, B34⟩ := mkO P33 h34 (xs := [.non, .int (-1), .int (1001), .bl true, .int (1), .str "0", .int (1000), .ref t33, .int (0)]) (n := 9) (odd_cons ⟨_, (At.leaf rfl)⟩ (odd_cons ⟨_, (At.leaf rfl)⟩ (odd_cons ⟨_, (At.leaf rfl)⟩ (odd_cons ⟨_, (At.leaf rfl)⟩ (odd_cons ⟨_, (At.leaf rfl)⟩ (odd_cons ⟨_, (At.leaf (LfD.str (by decide +kernel)))⟩ (odd_cons ⟨_, (At.leaf rfl)⟩ (odd_cons ⟨_, (At.up (At.up (a33.ex (Ex.refl H33))))⟩ (odd_cons ⟨_, (At.leaf rfl)⟩ odd_nil))))))))) (List.cons_ne_nil _ _) (by show 9 ≤ 9; decide)
    rw [← q34]
    clear q34
    have E34 : Ex H H34 := E33.trans e34
    refine ⟨_, rfl, ⟨_, sq_of B34.at_⟩, fun N hN => ?_⟩
    have W0 : Made p N H34 (upd H34 N (.lst [])) [] := Made.start P34 hN
    have vB := hv.ex E34
    refine lc_list (fun j H2 => ∃ ys, Made p N H34 H2 ys ∧ ys.length = j) ⟨[], W0, rfl⟩ (fun j H2 _ ⟨_, M, _⟩ => sq_of (M.e _ _ B34.at_)) ?_ ?_
    · rintro j y H2 hy ⟨ys, M, yl⟩
      have j9 : j < 9 := (List.getElem?_eq_some_iff.mp hy).1
      obtain ⟨dy, ay⟩ : ∃ d, At p 1 H34 y d := by
          have hy := List.mem_of_getElem? hy
          simp only [List.mem_cons, List.not_mem_nil, or_false] at hy
          rcases hy with rfl | rfl | rfl | rfl | rfl | rfl | rfl | rfl | rfl
          · exact ⟨_, (At.leaf rfl)⟩
          · exact ⟨_, (At.leaf rfl)⟩
          · exact ⟨_, (At.leaf rfl)⟩
          · exact ⟨_, (At.leaf rfl)⟩
          · exact ⟨_, (At.leaf rfl)⟩
          · exact ⟨_, (At.leaf (LfD.str (by decide +kernel)))⟩
          · exact ⟨_, (At.leaf rfl)⟩
          · exact ⟨_, (a33.ex e34)⟩
          · exact ⟨_, (At.leaf rfl)⟩
      have ha2 := M.e _ _ (E34 _ _ ha)
      refine ⟨rfl, _, rfl, 2, rfl, a, xs, rfl, st_of ha2, (fun z => absurd z.2 (by rw [sIx_2]; omega)), fun _ u hu => ?_⟩
      have eu : Ex H2 (upd H2 u (.tup (cutV xs none (some 2)))) := Ex.new hu
      rw [cut_2] at eu ⊢
      have gu : upd H2 u (.tup (xs.take 2)) u = some (.tup (xs.take 2)) := upd_same
      generalize upd H2 u (.tup (xs.take 2)) = H3 at eu gu
      refine ⟨_, rfl, (by show 1 ≤ sizeLine; decide), fun r hr => ?_⟩
      have er : Ex H3 (upd H3 r (.tup [y])) := Ex.new hr
      have gr : upd H3 r (.tup [y]) r = some (.tup [y]) := upd_same
      generalize upd H3 r (.tup [y]) = H4 at er gr
      have x2 : xs.take 2 ≠ [] := fun z => by rcases List.take_eq_nil_iff.mp z with h | h; exact absurd h (by decide); exact xne h
      refine ⟨u, r, xs.take 2, [y], rfl, rfl, st_of (er _ _ gu), st_of gr, (by rw [List.length_take]; exact Nat.le_trans (by show min 2 xs.length + 1 ≤ 3; omega) (by decide)), (fun z => absurd z x2), (fun _ z => nomatch z), fun _ _ q hq => ?_⟩
      have eq : Ex H4 (upd H4 q (.tup (xs.take 2 ++ [y]))) := Ex.new hq
      have gq : upd H4 q (.tup (xs.take 2 ++ [y])) q = some (.tup (xs.take 2 ++ [y])) := upd_same
      generalize upd H4 q (.tup (xs.take 2 ++ [y])) = H5 at eq gq
      have E5 : Ex H2 H5 := eu.trans (er.trans eq)
      refine ⟨ys, E5 _ _ M.at_, sz_lt (by omega), ys ++ [.ref q], M.put E5 (np_new M.poolN (eu.trans er) hq) (np_new M.inN (eu.trans er) hq) gq (by rw [List.length_append, List.length_take]; show min 2 xs.length + 1 ≤ 2000; omega) (prd_app (prd_take (Paired.mapP (pr_ex pr E34) fun _ _ z => At.up z) 2) (.cons (At.up ay) .nil)), by rw [List.length_append, yl]; rfl⟩
    rintro H2 ⟨ys, M, yl⟩
    have yn : ys ≠ [] := fun z => by rw [z] at yl; exact nomatch (show (0 : Nat) = 9 from yl)
    have BN := M.ol yn (by rw [yl]; show 9 ≤ 9; decide : ys.length ≤ 9)
    have AN := (AO.ex (e33.trans e34)).ex M.e
    have PN := M.pool
    have EN : Ex H H2 := E34.trans M.e
    refine ⟨_, _, _, _, rfl, rfl, AN.at_, BN.at_, Nat.le_trans (Nat.add_le_add AN.le BN.le) (by decide), fun q1 hq1 => ?_⟩
    obtain ⟨H90, q90, e90, P90, C90⟩ := OL.cat AN BN PN hq1
    rw [← q90]
    clear q90
    have E90 : Ex H H90 := EN.trans e90
    refine ⟨_, rfl, ?_⟩
    refine ⟨(by show 1 ≤ sizeLine; decide), fun t91 h91 => ?_⟩
    obtain ⟨H91, q91, e91, P91, a91, g91, n91⟩ := mkT P90 h91 (xs := [.str "a"]) (ds := [.str "a"]) (n := 0) (by show 1 ≤ 2000; decide) (.cons (At.leaf (LfD.str (by decide +kernel))) .nil)
    rw [← q91]
    clear q91
    have E91 : Ex H H91 := E90.trans e91
    refine ⟨Nat.zero_le _, fun t92 h92 => ?_⟩
    obtain ⟨H92, q92, e92, P92, a92, g92, n92⟩ := mkT P91 h92 (xs := []) (ds := []) (n := 0) (by show 0 ≤ 2000; decide) .nil
    rw [← q92]
    clear q92
    have E92 : Ex H H92 := E91.trans e92
    refine ⟨(by show 5 ≤ sizeLine; decide), fun t93 h93 => ?_⟩
    obtain ⟨H93, q93, e93, P93, B93⟩ := mkO P92 h93 (xs := [.str "zzzzzzzzzz", .int (0), .ref t91, .non, .ref t92]) (n := 5) (odd_cons ⟨_, (At.leaf (LfD.str (by decide +kernel)))⟩ (odd_cons ⟨_, (At.leaf rfl)⟩ (odd_cons ⟨_, (At.up (At.up (a91.ex e92)))⟩ (odd_cons ⟨_, (At.leaf rfl)⟩ (odd_cons ⟨_, (At.up (At.up (a92.ex (Ex.refl H92))))⟩ odd_nil))))) (List.cons_ne_nil _ _) (by show 5 ≤ 5; decide)
    rw [← q93]
    clear q93
    have E93 : Ex H H93 := E92.trans e93
    refine ⟨_, rfl, ⟨_, sq_of B93.at_⟩, fun N2 hN2 => ?_⟩
    have W1 : Made p N2 H93 (upd H93 N2 (.lst [])) [] := Made.start P93 hN2
    refine lc_list (fun j H3 => ∃ ys, Made p N2 H93 H3 ys ∧ ys.length = j) ⟨[], W1, rfl⟩ (fun j H3 _ ⟨_, M, _⟩ => sq_of (M.e _ _ B93.at_)) ?_ ?_
    · rintro j y H3 hy ⟨ys, M, yl⟩
      have j9 : j < 5 := (List.getElem?_eq_some_iff.mp hy).1
      obtain ⟨dy, ay⟩ : ∃ d, At p 1 H93 y d := by
          have hy := List.mem_of_getElem? hy
          simp only [List.mem_cons, List.not_mem_nil, or_false] at hy
          rcases hy with rfl | rfl | rfl | rfl | rfl
          · exact ⟨_, (At.leaf (LfD.str (by decide +kernel)))⟩
          · exact ⟨_, (At.leaf rfl)⟩
          · exact ⟨_, (a91.ex (e92.trans e93))⟩
          · exact ⟨_, (At.leaf rfl)⟩
          · exact ⟨_, (a92.ex e93)⟩
      have ha2 := M.e _ _ (E93 _ _ ha)
      have pr2 := pr_ex pr E93
      match xs, ds, pr2, x3 with
      | [x0, x1, x2], [d0, d1, d2], .cons p0 (.cons p1 (.cons p2 .nil)), _ =>
      refine ⟨rfl, _, rfl, .inr (.inl ⟨a, _, 0, x0, rfl, rfl, st_of ha2, rfl, _, rfl, _, rfl, .inr (.inl ⟨a, _, 2, x2, rfl, rfl, st_of ha2, rfl, (by show 3 ≤ sizeLine; decide), fun q hq => ?_⟩)⟩)⟩
      have eq : Ex H3 (upd H3 q (.tup [x0, y, x2])) := Ex.new hq
      have gq : upd H3 q (.tup [x0, y, x2]) q = some (.tup [x0, y, x2]) := upd_same
      generalize upd H3 q (.tup [x0, y, x2]) = H5 at eq gq
      refine ⟨ys, eq _ _ M.at_, sz_lt (by omega), ys ++ [.ref q], M.put eq (np_new M.poolN (Ex.refl _) hq) (np_new M.inN (Ex.refl _) hq) gq (by show 3 ≤ 2000; decide) (.cons (At.up p0) (.cons (At.up ay) (.cons (At.up p2) .nil))), by rw [List.length_append, yl]; rfl⟩
    rintro H3 ⟨ys2, M2, yl2⟩
    have yn2 : ys2 ≠ [] := fun z => by rw [z] at yl2; exact nomatch (show (0 : Nat) = 5 from yl2)
    have BN2 := M2.ol yn2 (by rw [yl2]; show 5 ≤ 5; decide : ys2.length ≤ 5)
    have AN2 := (C90.ex (e91.trans (e92.trans e93))).ex M2.e
    refine ⟨_, _, _, _, rfl, rfl, AN2.at_, BN2.at_, Nat.le_trans (Nat.add_le_add AN2.le BN2.le) (by decide), fun q2 hq2 => ?_⟩
    obtain ⟨H99, q99, e99, P99, C99⟩ := OL.cat AN2 BN2 M2.pool hq2
    rw [← q99]
    clear q99
    exact ⟨_, _, rfl, C99.mono (by decide), E93.trans (M2.e.trans e99), P99⟩
end
end WK

set_option Elab.async false
set_option linter.all false
set_option maxRecDepth 100000
set_option maxHeartbeats 4000000
namespace WK
open PySem PySem.Spec PyProof.Rows L2 WW Evl TL
theorem ne_none {p : Addr} {H H' : Hp} (e : Ex H H') (h : H p ≠ none) : H' p ≠ none := by
  cases q : H p with
  | none => exact absurd q h
  | some o => rw [e _ _ q]; exact fun z => nomatch z
section
variable {P : Program} {w : World} {K : PySem.W.Frag} {mg : Str → Option Value} {base : Heap} {f : Addr} {fd : FuncData}
/-- the same data twice: != says False -/
theorem same_go {p : Addr} {n m : Nat} {H : Hp} {x y : V} {d : PyData} {A B : Prop} (hx : At p n H x d) (hy : At p m H y d) (ln : n ≤ 60) (h : B) :
    ∃ d e, Dp K H x d ∧ Dp K H y e ∧ okP d = true ∧ okP e = true ∧ ∃ k, V.bl (!PyData.eqv d e) = .bl k ∧ if k = true then A else B :=
  ⟨d, d, hx.dp, hy.dp, hx.okp ln, hx.okp ln, _, rfl, by rw [eqv_refl (hx.okp ln)]; exact iteF h⟩
abbrev s_law : Stmt := top 58
theorem sc_law : FnScope ["_law_script", "_law_pool_here", "_law_turn", "_law_wish", "_law_text_here", "_law_other", "_law_meant_here", "_law_due", "_law_odd", "_law_strange"] ["_law_script"] (defScope s_law) := ⟨rfl, rfl, rfl, by decide +kernel, rfl, by decide +kernel, by decide +kernel⟩
def spLaw (K : PySem.W.Frag) : Sp := fun vs H Q _ => ∃ (a : Addr) (ns : List Int), vs = [.ref a] ∧ SqL K H a (ns.map V.int) ∧ ∀ H', Q (.bl true) H'
theorem okl_law {f_worded f_read_wish : Addr} (G : Gz mg) (g_worded : mg "worded" = some (.ref f_worded)) (g_read_wish : mg "read_wish" = some (.ref f_read_wish)) (D : Df K mg "law" s_law f fd ["_law_script"]) (c__law_pool : Callee P w K mg base CXn 1 "_law_pool" 1 (spPool K)) (c__law_draw_wish : Callee P w K mg base CXn 4 "_law_draw_wish" 1 spDrawW)
    (c__law_text : Callee P w K mg base CXn 2 "_law_text" 1 spLText) (c__law_told : Callee P w K mg base CXn 6 "_law_told" 2 (spTold f_worded f_read_wish)) (c_read_wish : Callee P w K mg base CXn 5 "read_wish" 1 spRead0) (c__law_spoiled : Callee P w K mg base CXn 3 "_law_spoiled" 2 spSpoil) (c__law_meant : Callee P w K mg base CXn 2 "_law_meant" 1 spMeant)
    (c__law_is_form : Callee P w K mg base CXn 3 "_law_is_form" 1 spLForm) (c__law_odd_wish : Callee P w K mg base CXn 3 "_law_odd_wish" 2 spOdd) (c__law_is_any : Callee P w K mg base CXn 4 "_law_is_any" 1 (fun vs H Q _ => ∃ p n v d, vs = [v] ∧ At p n H v d ∧ n ≤ 60 ∧ ∀ H', Ex H H' → Q (.bl (formD d)) H')) (c__law_pick : Callee P w K mg base CXn 2 "_law_pick" 2 spPick) :
    FnOk P w K mg base CXn 7 f fd ["_law_script"] (spLaw K) := by
  refine D.fn.ok sc_law (fun vs H Q E h => ?_) (fun cdv A outer s H vs Q E hr h => ⟨_, PSs.nox (pss_cons (ps_set (i := 1) sc_law.nd rfl (Or.inl rfl) (pe_cl (E := En) c__law_pool (hr.mono (by decide)) rfl passN (pa_cons (pv 0) pa_nil))) (pss_cons (ps_for PassesOwn.never rfl (pi_range1 rfl G.g_range (pa_cons pe_int pa_nil)) (pg_name (i := 2) sc_law.nd rfl (Or.inl rfl)) (pss_cons (ps_set (i := 3) sc_law.nd rfl (Or.inl rfl) (pe_cl (E := En) c__law_draw_wish (hr.mono (by decide)) rfl passN (pa_cons (pv 1) pa_nil))) (pss_cons (ps_set (i := 4) sc_law.nd rfl (Or.inl rfl) (pe_cl (E := En) c__law_text (hr.mono (by decide)) rfl passN (pa_cons (pv 3) pa_nil))) (pss_cons (ps_if (PW.pt (pw_or (pt_cmpR (op_neP hr.units) (pe_cl (E := En) c__law_told (hr.mono (by decide)) rfl passN (pa_cons (pe_glob (v := .ref f_worded) rfl g_worded rfl) (pa_cons (pv 3) pa_nil))) (pe_tup (pa_cons pe_str (pa_cons (pv 4) pa_nil))) (nomark _)) (pw_or1 (pt_cmpR (op_neP hr.units) (pe_cl (E := En) c__law_told (hr.mono (by decide)) rfl passN (pa_cons (pe_glob (v := .ref f_read_wish) rfl g_read_wish rfl) (pa_cons (pv 4) pa_nil))) (pe_tup (pa_cons pe_str (pa_cons (pv 3) pa_nil))) (nomark _))))) (pss_one (ps_ret pe_bl)) pss_nil) (pss_cut (ps_if (PW.pt (pw_and (pt_cmpR op_eq (pe_ix (ixK (K := K) rfl) (pv 3) pe_int (fun _ _ => rfl)) pe_str (nomark _)) (pw_and1 (pt_not (pt_val (pe_callB (isiK (K := K) rfl) rfl G.g_isinstance (by rfl) (pa_cons (pe_ix (ixK (K := K) rfl) (pe_cl (E := En) c_read_wish (hr.mono (by decide)) rfl passN (pa_cons (pv 4) pa_nil)) pe_int (fun _ _ => rfl)) (pa_cons (pe_bltn (v := .ty "bool") rfl G.g_bool (by rfl) rfl) pa_nil)))))))) (pss_one (ps_ret pe_bl)) pss_nil) (pss_cons (ps_set (i := 5) sc_law.nd rfl (Or.inl rfl) (pe_cl (E := En) c__law_spoiled (hr.mono (by decide)) rfl passN (pa_cons (pv 1) (pa_cons (pv 4) pa_nil)))) (pss_cons (ps_set (i := 6) sc_law.nd rfl (Or.inl rfl) (pe_cl (E := En) c__law_meant (hr.mono (by decide)) rfl passN (pa_cons (pv 5) pa_nil))) (pss_cons (ps_set (i := 7) sc_law.nd rfl (Or.inl rfl) (pe_tup (pa_cons pe_str (pa_cons pe_int pa_nil)))) (pss_cut (ps_if (PW.pt (pw_and (pt_val (pe_cl (E := En) c__law_is_form (hr.mono (by decide)) rfl passN (pa_cons (pv 6) pa_nil))) (pw_and1 (pt_cmpR op_eq (pe_cl (E := En) c__law_text (hr.mono (by decide)) rfl passN (pa_cons (pv 6) pa_nil)) (pv 5) (nomark _))))) (pss_one (ps_set (i := 7) sc_law.nd rfl (Or.inl rfl) (pe_tup (pa_cons pe_str (pa_cons (pv 6) pa_nil))))) pss_nil) (pss_cons (ps_if (pt_cmpR (op_neP hr.units) (pe_cl (E := En) c__law_told (hr.mono (by decide)) rfl passN (pa_cons (pe_glob (v := .ref f_read_wish) rfl g_read_wish rfl) (pa_cons (pv 5) pa_nil))) (pv 7) (nomark _)) (pss_one (ps_ret pe_bl)) pss_nil) (pss_cons (ps_set (i := 8) sc_law.nd rfl (Or.inl rfl) (pe_cl (E := En) c__law_odd_wish (hr.mono (by decide)) rfl passN (pa_cons (pv 1) (pa_cons (pv 3) pa_nil)))) (pss_cons (ps_set (i := 7) sc_law.nd rfl (Or.inl rfl) (pe_tup (pa_cons pe_str (pa_cons (pv 8) pa_nil)))) (pss_cut (ps_if (pt_val (pe_cl (E := En) c__law_is_any (hr.mono (by decide)) rfl passN (pa_cons (pv 8) pa_nil))) (pss_one (ps_set (i := 7) sc_law.nd rfl (Or.inl rfl) (pe_tup (pa_cons pe_str (pa_cons (pe_cl (E := En) c__law_text (hr.mono (by decide)) rfl passN (pa_cons (pv 8) pa_nil)) pa_nil))))) pss_nil) (pss_cons (ps_if (pt_cmpR (op_neP hr.units) (pe_cl (E := En) c__law_told (hr.mono (by decide)) rfl passN (pa_cons (pe_glob (v := .ref f_worded) rfl g_worded rfl) (pa_cons (pv 8) pa_nil))) (pv 7) (nomark _)) (pss_one (ps_ret pe_bl)) pss_nil) (pss_cons (ps_set (i := 9) sc_law.nd rfl (Or.inl rfl) (pe_cl (E := En) c__law_pick (hr.mono (by decide)) rfl passN (pa_cons (pv 1) (pa_cons (pe_lst (pa_cons pe_non (pa_cons pe_int (pa_cons (pe_lst (pa_cons pe_str pa_nil)) (pa_cons (pe_tup (pa_cons pe_str pa_nil)) (pa_cons pe_bl pa_nil)))))) pa_nil)))) (pss_one (ps_if (pt_cmpR (op_neP hr.units) (pe_cl (E := En) c__law_told (hr.mono (by decide)) rfl passN (pa_cons (pe_glob (v := .ref f_read_wish) rfl g_read_wish rfl) (pa_cons (pv 9) pa_nil))) (pe_tup (pa_cons pe_str (pa_cons (pe_un un_neg pe_int) pa_nil))) (nomark _)) (pss_one (ps_ret pe_bl)) pss_nil))))))))))))))))) (pss_one (ps_ret pe_bl)))), ?_⟩)
  · obtain ⟨_, _, rfl, _⟩ := h
    rfl
  · obtain ⟨a0, ns, rfl, hs0, k⟩ := h
    refine ⟨_, rfl, a0, ns, rfl, hs0, fun p H1 _ _ P1 => ?_⟩
    refine ⟨8, rfl, by decide, by decide, for_range (n := 8) (fun i σ' H' => ∃ v2 v3 v4 v5 v6 v7 v8 v9, σ' = [some (.ref a0), some (.ref p), v2, v3, v4, v5, v6, v7, v8, v9] ∧ Pool H' p) ⟨none, none, none, none, none, none, none, none, rfl, P1⟩ ?_ (fun σ' H' _ => k H')⟩
    rintro i σ' H' hi ⟨v2, v3, v4, v5, v6, v7, v8, v9, rfl, P0⟩
    -- a wish and its text
    refine ⟨_, rfl, p, rfl, P0, fun v d H2 hv hf hsh _ P2 => ?_⟩
    refine ⟨_, rfl, p, 2, v, d, rfl, hv, hf, fun H3 e3 => ?_⟩
    have P3 := P2.ex e3
    have hv3 := hv.ex e3
    have rb := read_back hf
    have tlen : (textD d).length ≤ 400 := by have := textD_len hf hsh; omega
    have eW : tellW d = .tuple [.str tTold, .str (textD d)] := by unfold tellW; rw [if_pos hf]
    have eR : tellR (textD d) = .tuple [.str tTold, d] := by unfold tellR; rw [rb, if_pos hf]
    have tleaf : LfD (.str (textD d)) (.str (textD d)) := LfD.st (by omega)
    clear hv P2 e3
    refine ⟨_, rfl, f_worded, v, rfl, .inl ⟨rfl, p, 2, d, hv3, P3.here, fun T H4 e4 hT => ?_⟩⟩
    rw [eW] at hT
    refine ⟨_, rfl, (by show 2 ≤ sizeLine; decide), fun t ht => ?_⟩
    have e5 : Ex H4 (upd H4 t (.tup [.str tTold, .str (textD d)])) := Ex.new ht
    refine same_go (hT.ex e5) (At.tup (n := 0) ((P3.ex e4).here |> fun q z => q (z ▸ ht)) upd_same (by show 2 ≤ 2000; decide) (.cons (At.leaf (LfD.str (by decide +kernel))) (.cons (At.leaf tleaf) .nil))) (by decide) ?_
    have E5 : Ex H3 _ := e4.trans e5
    have P5 := P3.ex E5
    have hv5 := hv3.ex E5
    generalize upd H4 t (.tup [.str tTold, .str (textD d)]) = H5 at P5 hv5
    clear hT ht e5 E5 e4
    refine ⟨_, rfl, f_read_wish, _, rfl, .inr ⟨rfl, p, .str _, P5.here, (fun z => nomatch (show true = false from z)), fun t0 et => ?_⟩⟩
    cases et
    refine ⟨by omega, fun T H6 e6 hT => ?_⟩
    rw [eR] at hT
    refine ⟨_, rfl, (by show 2 ≤ sizeLine; decide), fun t ht => ?_⟩
    have e7 : Ex H6 (upd H6 t (.tup [.str tTold, v])) := Ex.new ht
    have hv7 := hv5.ex (e6.trans e7)
    refine same_go (hT.ex e7) (At.tup (n := 2) ((P5.ex e6).here |> fun q z => q (z ▸ ht)) upd_same (by show 2 ≤ 2000; decide) (.cons (At.leaf (LfD.str (by decide +kernel))) (.cons hv7 .nil))) (by decide) ?_
    have P7 := P5.ex (e6.trans e7)
    generalize upd H6 t (.tup [.str tTold, v]) = H7 at P7 hv7
    clear hT ht e7 e6 hv5 P5 hv3 P3
    -- a flag
    refine ⟨fun σ' H' => (∃ w2, σ' = [some (.ref a0), some (.ref p), w2, some v, some (.str (textD d)), v5, v6, v7, v8, v9]) ∧ Ex H7 H', ?_, ?_⟩
    · obtain ⟨ds, rfl, dne, _⟩ := form_tup hf
      obtain ⟨m', a, xs, _, rfl, np, ha, xl, pr⟩ := hv7.tups
      match ds, xs, pr with
      | y :: r, u :: us, .cons g0 pr' =>
        obtain ⟨g, rfl⟩ := form_head hf
        obtain ⟨rfl, _⟩ := g0.strs
        refine ⟨_, rfl, .inr (.inl ⟨a, _, 0, _, rfl, rfl, st_of ha, (atI_nat rfl : atI (V.str g :: us) ((0 : Nat) : Int) = some (.str g)), rfl, _, rfl, ?_⟩)⟩
        rw [strE]
        refine ite2 (fun h => ?_) (fun _ => ⟨⟨_, rfl⟩, Ex.refl _⟩)
        have hg := of_decide_eq_true h
        have shape : ∃ z b, (PyData.tuple (.str g :: r)) = .tuple [.str tHidden, z, .bool b] := by
          subst hg
          rcases form_cases hf with e | ⟨z, i, e | e, _⟩ | ⟨z, b, e, _⟩ | ⟨x, y, e, _⟩
          · injection e with e; injection e with e1 e2; injection e1 with e1; exact absurd e1 (by decide +kernel)
          · injection e with e; injection e with e1 e2; injection e1 with e1; exact absurd e1 (by decide +kernel)
          · injection e with e; injection e with e1 e2; injection e1 with e1; exact absurd e1 (by decide +kernel)
          · exact ⟨_, _, e⟩
          · injection e with e; injection e with e1 e2; injection e1 with e1; exact absurd e1 (by decide +kernel)
        obtain ⟨z, b, es⟩ := shape
        refine ⟨_, rfl, p, _, rfl, by omega, P7.here, by rw [rb]; exact hf, fun x H8 e8 hx => ?_⟩
        rw [rb, es] at hx
        obtain ⟨m2, a2, xs2, _, rfl, np2, ha2, xl2, pr2⟩ := hx.tups
        match xs2, pr2 with
        | [u1, u2, u3], .cons q1 (.cons q2 (.cons q3 .nil)) =>
          cases q3.bools
          obtain ⟨tb, gb⟩ := (Pl.bl (H := H8) b).kin (K := K)
          refine .inr (.inl ⟨a2, _, 2, _, rfl, rfl, st_of ha2, rfl, .bl b, .ty "bool", tb, .type "bool", true, rfl, .ty _, gb.ty, gb.bool, true, rfl, iteF ⟨⟨_, rfl⟩, e8⟩⟩)
    rintro σ1 H8 ⟨⟨w2, rfl⟩, e8⟩
    have P8 := P7.ex e8
    have hv8 := hv7.ex e8
    clear hv7 P7 e8
    -- a spoiled text
    refine ⟨_, rfl, _, rfl, p, textD d, rfl, P8, tlen, fun u H9 ul K9 P9 => ?_⟩
    have hv9 := Kp.at K9 hv8
    refine ⟨_, rfl, p, u, rfl, ul, P9.here, fun m H10 e10 hm => ?_⟩
    have P10 := P9.ex e10
    refine ⟨(by show 2 ≤ sizeLine; decide), fun t5 ht5 => ?_⟩
    have e11 : Ex H10 (upd H10 t5 (.tup [.str tText, .int 0])) := Ex.new ht5
    have hd11 : At p 3 (upd H10 t5 (.tup [.str tText, .int 0])) (.ref t5) (.tuple [.str tText, .int 0]) := At.up (At.up (At.tup (n := 0) (np_pool P10 ht5) upd_same (by show 2 ≤ 2000; decide) (.cons (At.leaf (LfD.str (by decide +kernel))) (.cons (At.leaf rfl) .nil))))
    have P11 := P10.ex e11
    have hm11 := hm.ex e11
    have hv11 := (hv9.ex e10).ex e11
    generalize upd H10 t5 (.tup [.str tText, .int 0]) = H11 at hd11 P11 hm11 hv11
    obtain ⟨tr1, tr2⟩ := two_read u
    clear hv8 hv9 P8 P9 K9 e10 e11 P10 hm ht5
    refine ⟨fun σ' H' => (∃ T, σ' = [some (.ref a0), some (.ref p), w2, some v, some (.str (textD d)), some (.str u), some m, some (.ref T), v8, v9] ∧ At p 3 H' (.ref T) (tellR u)) ∧ Ex H11 H', ?_, ?_⟩
    · refine ⟨_, rfl, p, 2, m, _, rfl, hm11, raw_lfm _, fun H12 e12 => ⟨_, rfl, ?_⟩⟩
      have no : formD (raw numP (Txt.split u sp1)) = false → tellR u = .tuple [.str tText, .int 0] := fun h => by unfold tellR; rw [h, if_neg (by decide)]
      cases hq : formD (raw numQ (Txt.split u sp1)) with
      | false =>
        rw [hq, Bool.false_and] at tr1
        exact iteF ⟨⟨_, rfl, by rw [no tr1.symm]; exact hd11.ex e12⟩, e12⟩
      | true =>
        rw [hq, Bool.true_and] at tr1
        refine iteT ⟨_, rfl, p, 2, m, _, rfl, hm11.ex e12, hq, fun H13 e13 => ⟨_, rfl, rfl, _, rfl, ?_⟩⟩
        rw [strE, tr1]
        have E13 := e12.trans e13
        cases hp' : formD (raw numP (Txt.split u sp1)) with
        | false => exact iteF ⟨⟨_, rfl, by rw [no hp']; exact hd11.ex E13⟩, E13⟩
        | true =>
          refine iteT ⟨_, rfl, (by show 2 ≤ sizeLine; decide), fun T hT => ⟨⟨_, rfl, ?_⟩, E13.trans (Ex.new hT)⟩⟩
          have er : tellR u = .tuple [.str tTold, raw numQ (Txt.split u sp1)] := by unfold tellR; rw [if_pos hp', tr2 hp']
          rw [er]
          exact At.tup (np_pool (P11.ex E13) hT) upd_same (by show 2 ≤ 2000; decide) (.cons (At.leaf (LfD.str (by decide +kernel))) (.cons ((hm11.ex E13).ex (Ex.new hT)) .nil))
    rintro σ2 H14 ⟨⟨T7, rfl, hT7⟩, e14⟩
    have P14 := P11.ex e14
    have hv14 := hv11.ex e14
    clear hd11 P11 hm11 hv11 e14 tr1 tr2
    refine ⟨_, rfl, f_read_wish, _, rfl, .inr ⟨rfl, p, .str _, P14.here, (fun z => nomatch (show true = false from z)), fun t0 et => ?_⟩⟩
    cases et
    refine ⟨ul, fun T H15 e15 hT => ?_⟩
    refine ⟨_, rfl, same_go hT (hT7.ex e15) (by decide) ?_⟩
    have P15 := P14.ex e15
    have hv15 := hv14.ex e15
    clear hT hT7 hv14 P14 e15
    -- an odd thing
    refine ⟨_, rfl, _, rfl, p, v, d, rfl, P15, hv15, hf, fun x dx H16 hx K16 P16 => ?_⟩
    refine ⟨_, rfl, (by show 2 ≤ sizeLine; decide), fun t6 ht6 => ?_⟩
    have e17 : Ex H16 (upd H16 t6 (.tup [.str tWish, x])) := Ex.new ht6
    have hx17 := hx.ex e17
    have hd17 : At p 4 (upd H16 t6 (.tup [.str tWish, x])) (.ref t6) (.tuple [.str tWish, dx]) := At.tup (np_pool P16 ht6) upd_same (by show 2 ≤ 2000; decide) (.cons (At.leaf (LfD.str (by decide +kernel))) (.cons hx17 .nil))
    have P17 := P16.ex e17
    generalize upd H16 t6 (.tup [.str tWish, x]) = H17 at hx17 hd17 P17
    clear hx P16 e17 ht6 K16 hv15 P15
    refine ⟨fun σ' H' => (∃ T, σ' = [some (.ref a0), some (.ref p), w2, some v, some (.str (textD d)), some (.str u), some m, some (.ref T), some x, v9] ∧ At p 4 H' (.ref T) (tellW dx)) ∧ Ex H17 H', ?_, ?_⟩
    · refine ⟨_, rfl, p, 3, x, dx, rfl, hx17, by decide, fun H18 e18 => ⟨_, rfl, ?_⟩⟩
      cases hfx : formD dx with
      | false =>
        have ew : tellW dx = .tuple [.str tWish, dx] := by unfold tellW; rw [hfx, if_neg (by decide)]
        exact iteF ⟨⟨_, rfl, by rw [ew]; exact hd17.ex e18⟩, e18⟩
      | true =>
        have ew : tellW dx = .tuple [.str tTold, .str (textD dx)] := by unfold tellW; rw [if_pos hfx]
        refine iteT ⟨_, rfl, p, 3, x, dx, rfl, hx17.ex e18, hfx, fun H19 e19 => ⟨(by show 2 ≤ sizeLine; decide), fun T hT => ⟨⟨_, rfl, ?_⟩, (e18.trans e19).trans (Ex.new hT)⟩⟩⟩
        rw [ew]
        exact At.up (At.up (At.up (At.tup (n := 0) (np_pool (P17.ex (e18.trans e19)) hT) upd_same (by show 2 ≤ 2000; decide) (.cons (At.leaf (LfD.str (by decide +kernel))) (.cons (At.leaf (LfD.str (Nat.le_trans (hx17.textLen hfx) (by decide)))) .nil)))))
    rintro σ3 H20 ⟨⟨T8, rfl, hT8⟩, e20⟩
    have P20 := P17.ex e20
    have hx20 := hx17.ex e20
    clear hx17 hd17 P17 e20
    refine ⟨_, rfl, f_worded, x, rfl, .inl ⟨rfl, p, 3, dx, hx20, P20.here, fun T H21 e21 hT => ?_⟩⟩
    refine ⟨_, rfl, same_go hT (hT8.ex e21) (by decide) ?_⟩
    have P21 := P20.ex e21
    clear hT hT8 hx20 P20 e21
    -- no text
    refine ⟨_, rfl, (by show 1 ≤ sizeLine; decide), fun l1 hl1 => ?_⟩
    have e22 : Ex H21 (upd H21 l1 (.lst [.str tKept])) := Ex.new hl1
    have gl : upd H21 l1 (.lst [.str tKept]) l1 = some (.lst [.str tKept]) := upd_same
    have nl1 := np_pool P21 hl1
    generalize upd H21 l1 (.lst [.str tKept]) = H22 at e22 gl
    refine ⟨(by show 1 ≤ sizeLine; decide), fun l2 hl2 => ?_⟩
    have e23 : Ex H22 (upd H22 l2 (.tup [.str tKept])) := Ex.new hl2
    have gt : upd H22 l2 (.tup [.str tKept]) l2 = some (.tup [.str tKept]) := upd_same
    have nl2 := np_pool (P21.ex e22) hl2
    generalize upd H22 l2 (.tup [.str tKept]) = H23 at e23 gt
    refine ⟨(by show 5 ≤ sizeLine; decide), fun l3 hl3 => ?_⟩
    have P23 := P21.ex (e22.trans e23)
    have nl3 := np_pool P23 hl3
    have e24 : Ex H23 (upd H23 l3 (.lst [.non, .int 3, .ref l1, .ref l2, .bl true])) := Ex.new hl3
    refine ⟨p, l3, _, rfl, P23.ex e24, nl3, .inl upd_same, by simp, by show 5 ≤ 1000; decide, fun y H25 my K25 P25 => ?_⟩
    have yy : Pl H25 y ∧ isS y = false := by
      have h1 := K25.k _ _ nl1 ((e23.trans e24) _ _ gl)
      have h2 := K25.k _ _ nl2 (e24 _ _ gt)
      simp only [List.mem_cons, List.not_mem_nil, or_false] at my
      rcases my with rfl | rfl | rfl | rfl | rfl
      · exact ⟨.non, rfl⟩
      · exact ⟨.int _, rfl⟩
      · exact ⟨.lst h1, rfl⟩
      · exact ⟨.tup h2, rfl⟩
      · exact ⟨.bl _, rfl⟩
    refine ⟨_, rfl, f_read_wish, _, rfl, .inr ⟨rfl, p, yy.1, P25.here, fun _ T H26 e26 hT => ?_, fun t0 et => ?_⟩⟩
    rotate_left
    · rw [et] at yy
      exact nomatch (show true = false from yy.2)
    refine ⟨_, rfl, (by show 2 ≤ sizeLine; decide), fun t ht => ?_⟩
    have e27 : Ex H26 (upd H26 t (.tup [.str tText, .int (-1)])) := Ex.new ht
    refine same_go (hT.ex e27) (At.tup (n := 0) (np_pool (P25.ex e26) ht) upd_same (by show 2 ≤ 2000; decide) (.cons (At.leaf (LfD.str (by decide +kernel))) (.cons (At.leaf rfl) .nil))) (by decide) ?_
    exact ⟨_, _, _, _, _, _, _, _, rfl, P25.ex (e26.trans e27)⟩
end
end WK

set_option Elab.async false
set_option linter.all false
set_option maxRecDepth 100000
set_option maxHeartbeats 0
namespace WK
open PySem PySem.Spec PyProof.Rows L2 WW Evl
abbrev s_BadWish : Stmt := inClass (top 2) 0
abbrev s_BadText : Stmt := inClass (top 3) 0
def dG (x : Str) (st : Stmt) : He5.DefA := { at_ := fun K => He.ga K x, name := x, qual := x, params := defArgs st, body := defBody st, scope := defScope st }
def dE (x : Str) (q : Str) (st : Stmt) : DefE := { cls := x, qual := q, params := defArgs st, body := defBody st, scope := defScope st }
def fn : List He5.DefA := [dG "law" s_law, dG "is_integer" s_is_integer, dG "is_flag" s_is_flag, dG "is_name" s_is_name, dG "is_tuple_of" s_is_tuple_of, dG "is_index" s_is_index, dG "is_count" s_is_count, dG "is_form" s_is_form, dG "is_word" s_is_word, dG "is_tuple_of_words" s_is_tuple_of_words, dG "is_numeral" s_is_numeral, dG "worded" s_worded, dG "read_wish" s_read_wish, dG "wish_of" s_wish_of, dG "row_worded" s_row_worded, dG "row_of" s_row_of, dG "number_of" s_number_of, dG "_law_pool" s__law_pool, dG "_law_draw" s__law_draw, dG "_law_pick" s__law_pick, dG "_law_name" s__law_name, dG "_law_names" s__law_names, dG "_law_whole" s__law_whole, dG "_law_is_name" s__law_is_name, dG "_law_rises" s__law_rises, dG "_law_odd_wish" s__law_odd_wish, dG "_law_draw_wish" s__law_draw_wish, dG "_law_row_text" s__law_row_text, dG "_law_text" s__law_text, dG "_law_row" s__law_row, dG "_law_number" s__law_number, dG "_law_meant" s__law_meant, dG "_law_is_form" s__law_is_form, dG "_law_is_any" s__law_is_any, dG "_law_spoiled" s__law_spoiled, dG "_law_told" s__law_told]
def fe : List DefE := [dE "BadWish" "BadWish.__init__" s_BadWish, dE "BadText" "BadText.__init__" s_BadText]
def gnames : List Str := (["law", "is_integer", "is_flag", "is_name", "is_tuple_of", "is_index", "is_count", "is_form", "is_word", "is_tuple_of_words", "is_numeral", "worded", "read_wish", "wish_of", "row_worded", "row_of", "number_of", "_law_pool", "_law_draw", "_law_pick", "_law_name", "_law_names", "_law_whole", "_law_is_name"] : List Str) ++ (["_law_rises", "_law_odd_wish", "_law_draw_wish", "_law_row_text", "_law_text", "_law_row", "_law_number", "_law_meant", "_law_is_form", "_law_is_any", "_law_spoiled", "_law_told", "BadWish", "BadText"] : List Str)
def bnames : List Str := ["len", "isinstance", "int", "bool", "str", "list", "tuple", "all", "abs", "max", "sorted", "range", "enumerate", "set", "super"]
def oth : List He.Fa := [.int "MOST_LETTERS" 10, .int "MOST_COUNT" 1000, .int "MOST_DIGITS" 4, .str "KEPT" tKept, .str "TOLD" tTold, .str "WARNED" tWarned, .str "HIDDEN" tHidden, .str "SURE" tSure, .str "WITHIN" tWithin, .str "AHEAD" tAhead, .str "JOINTLY" tJointly, .str "BY" tBy, .str "NO_WORDS" mn1]
def fa : List He.Fa := gnames.map He.Fa.glo ++ (bnames.map He.Fa.free ++ oth)
theorem gl_mem {x : Str} (h : x ∈ gnames) : He.Fa.glo x ∈ fa := List.mem_append_left _ (List.mem_map.mpr ⟨x, h, rfl⟩)
theorem fr_mem {x : Str} (h : x ∈ bnames) : He.Fa.free x ∈ fa := List.mem_append_right _ (List.mem_append_left _ (List.mem_map.mpr ⟨x, h, rfl⟩))
theorem ot_mem {f : He.Fa} (i : Nat) (h : oth[i]? = some f) : f ∈ fa := List.mem_append_right _ (List.mem_append_right _ (List.mem_of_getElem? h))
abbrev Pr : Program := (PySem.Challenge.rw_watchedworks_k75_wordings_of_wishes).prog
def exL (K : PySem.W.Frag) : List Bool := [exdB Pr.main.file K (dE "BadWish" "BadWish.__init__" s_BadWish), exdB Pr.main.file K (dE "BadText" "BadText.__init__" s_BadText), xfB K (He.ga K "BadWish"), xfB K (He.ga K "BadText"), He.eqO (PySem.W.findIn K (.ref (He.ga K "BadWish")) "value") (some none), He.eqO (PySem.W.findIn K (.ref (He.ga K "BadText")) "at") (some none), decide (PySem.W.exmOne K (.ref (He.ga K "BadText")) (.ref (He.ga K "BadText")) = some true), decide (PySem.W.exmOne K (.ref (He.ga K "BadWish")) (.ref (He.ga K "BadText")) = some false), decide (PySem.W.exmOne K (.ref (He.ga K "BadWish")) (.ref (He.ga K "BadWish")) = some true)]
def ex (K : PySem.W.Frag) : Bool := (exL K).all id
abbrev R : PySem.W.OpenRow := PySem.W.OpenLaw.row PySem.Challenge.rw_watchedworks_k75_wordings_of_wishes
abbrev hk : PySem.W.Hook := hookE 5 fa fn fe ex
def ob (s : PySem.W.SharedT) : AlE := obsEG 5 fa fn fe ex (HandSHeadRun.getT s)
theorem ob_eq (s : PySem.W.SharedT) : ob s = hk.obs s.abs := obsEG_eq (HandSHeadRun.getT_eq s)
abbrev loose : List Str := (["WorksError", "BadWish", "BadText", "MOST_LETTERS", "is_integer", "is_flag", "is_name", "is_tuple_of", "is_index", "MOST_COUNT", "is_count", "KEPT", "TOLD", "WARNED", "HIDDEN", "SURE", "is_form", "is_word", "is_tuple_of_words", "is_numeral", "WITHIN", "AHEAD", "JOINTLY", "BY"] : List Str) ++ (["NO_WORDS", "MOST_DIGITS", "worded", "read_wish", "wish_of", "row_worded", "row_of", "number_of", "_law_pool", "_law_draw", "_law_pick", "_law_name", "_law_names", "_law_whole", "_law_is_name", "_law_rises", "_law_odd_wish", "_law_draw_wish", "_law_row_text", "_law_text", "_law_row", "_law_number", "_law_meant", "_law_is_form"] : List Str) ++ (["_law_is_any", "_law_spoiled", "_law_told"] : List Str)
theorem run (w : World) : HandSHeadRun.RunEq R (PySem.W.view R.prog [58]) hk ob 12000 loose w := by
  intro os
  kernel_rfl
theorem facts {w : World} {K : PySem.W.Frag} {h : Heap} {mg : Str → Option Value} {f : Addr} (X : K.In h) (Gn : h.Ns mainGlobals mg) (hfa : mg ("law" : Str) = some (.ref f)) (ce : SaysE fa fn fe ex K) :
    ∃ fd : FuncData, (∀ (s : Shared) (v : Value), BindsTo s fd ⟨[v], []⟩ [("_law_script", v)]) ∧ ∀ base : Heap, K.In base → base.Ns mainGlobals mg → FnOk Pr w K mg base CXn 7 f fd ["_law_script"] (spLaw K) := by
  have c := ce.b
  have fr : ∀ {x : Str}, x ∈ bnames → mg x = none := fun m => He.free_ok X Gn (c.fact (fr_mem m))
  have gl : ∀ {x : Str}, x ∈ gnames → mg x = some (.ref (He.ga K x)) := fun m => He.glo_ok X Gn (c.fact (gl_mem m))
  have G : Gz mg := ⟨fr (x := "len") (by decide +kernel), fr (x := "isinstance") (by decide +kernel), fr (x := "int") (by decide +kernel), fr (x := "bool") (by decide +kernel), fr (x := "str") (by decide +kernel), fr (x := "list") (by decide +kernel), fr (x := "tuple") (by decide +kernel), fr (x := "all") (by decide +kernel), fr (x := "abs") (by decide +kernel), fr (x := "max") (by decide +kernel), fr (x := "sorted") (by decide +kernel), fr (x := "range") (by decide +kernel), fr (x := "enumerate") (by decide +kernel), fr (x := "set") (by decide +kernel)⟩
  obtain ⟨fd0, D0⟩ := c.def_ 0 (d := dG "law" s_law) rfl
  replace D0 : FunD K "law" "law" (defArgs s_law) (defBody s_law) (defScope s_law) [] [] _ fd0 := D0
  obtain ⟨fd1, D1⟩ := c.def_ 1 (d := dG "is_integer" s_is_integer) rfl
  replace D1 : FunD K "is_integer" "is_integer" (defArgs s_is_integer) (defBody s_is_integer) (defScope s_is_integer) [] [] _ fd1 := D1
  obtain ⟨fd2, D2⟩ := c.def_ 2 (d := dG "is_flag" s_is_flag) rfl
  replace D2 : FunD K "is_flag" "is_flag" (defArgs s_is_flag) (defBody s_is_flag) (defScope s_is_flag) [] [] _ fd2 := D2
  obtain ⟨fd3, D3⟩ := c.def_ 3 (d := dG "is_name" s_is_name) rfl
  replace D3 : FunD K "is_name" "is_name" (defArgs s_is_name) (defBody s_is_name) (defScope s_is_name) [] [] _ fd3 := D3
  obtain ⟨fd4, D4⟩ := c.def_ 4 (d := dG "is_tuple_of" s_is_tuple_of) rfl
  replace D4 : FunD K "is_tuple_of" "is_tuple_of" (defArgs s_is_tuple_of) (defBody s_is_tuple_of) (defScope s_is_tuple_of) [] [] _ fd4 := D4
  obtain ⟨fd5, D5⟩ := c.def_ 5 (d := dG "is_index" s_is_index) rfl
  replace D5 : FunD K "is_index" "is_index" (defArgs s_is_index) (defBody s_is_index) (defScope s_is_index) [] [] _ fd5 := D5
  obtain ⟨fd6, D6⟩ := c.def_ 6 (d := dG "is_count" s_is_count) rfl
  replace D6 : FunD K "is_count" "is_count" (defArgs s_is_count) (defBody s_is_count) (defScope s_is_count) [] [] _ fd6 := D6
  obtain ⟨fd7, D7⟩ := c.def_ 7 (d := dG "is_form" s_is_form) rfl
  replace D7 : FunD K "is_form" "is_form" (defArgs s_is_form) (defBody s_is_form) (defScope s_is_form) [] [] _ fd7 := D7
  obtain ⟨fd8, D8⟩ := c.def_ 8 (d := dG "is_word" s_is_word) rfl
  replace D8 : FunD K "is_word" "is_word" (defArgs s_is_word) (defBody s_is_word) (defScope s_is_word) [] [] _ fd8 := D8
  obtain ⟨fd9, D9⟩ := c.def_ 9 (d := dG "is_tuple_of_words" s_is_tuple_of_words) rfl
  replace D9 : FunD K "is_tuple_of_words" "is_tuple_of_words" (defArgs s_is_tuple_of_words) (defBody s_is_tuple_of_words) (defScope s_is_tuple_of_words) [] [] _ fd9 := D9
  obtain ⟨fd10, D10⟩ := c.def_ 10 (d := dG "is_numeral" s_is_numeral) rfl
  replace D10 : FunD K "is_numeral" "is_numeral" (defArgs s_is_numeral) (defBody s_is_numeral) (defScope s_is_numeral) [] [] _ fd10 := D10
  obtain ⟨fd11, D11⟩ := c.def_ 11 (d := dG "worded" s_worded) rfl
  replace D11 : FunD K "worded" "worded" (defArgs s_worded) (defBody s_worded) (defScope s_worded) [] [] _ fd11 := D11
  obtain ⟨fd12, D12⟩ := c.def_ 12 (d := dG "read_wish" s_read_wish) rfl
  replace D12 : FunD K "read_wish" "read_wish" (defArgs s_read_wish) (defBody s_read_wish) (defScope s_read_wish) [] [] _ fd12 := D12
  obtain ⟨fd13, D13⟩ := c.def_ 13 (d := dG "wish_of" s_wish_of) rfl
  replace D13 : FunD K "wish_of" "wish_of" (defArgs s_wish_of) (defBody s_wish_of) (defScope s_wish_of) [] [] _ fd13 := D13
  obtain ⟨fd14, D14⟩ := c.def_ 14 (d := dG "row_worded" s_row_worded) rfl
  replace D14 : FunD K "row_worded" "row_worded" (defArgs s_row_worded) (defBody s_row_worded) (defScope s_row_worded) [] [] _ fd14 := D14
  obtain ⟨fd15, D15⟩ := c.def_ 15 (d := dG "row_of" s_row_of) rfl
  replace D15 : FunD K "row_of" "row_of" (defArgs s_row_of) (defBody s_row_of) (defScope s_row_of) [] [] _ fd15 := D15
  obtain ⟨fd16, D16⟩ := c.def_ 16 (d := dG "number_of" s_number_of) rfl
  replace D16 : FunD K "number_of" "number_of" (defArgs s_number_of) (defBody s_number_of) (defScope s_number_of) [] [] _ fd16 := D16
  obtain ⟨fd17, D17⟩ := c.def_ 17 (d := dG "_law_pool" s__law_pool) rfl
  replace D17 : FunD K "_law_pool" "_law_pool" (defArgs s__law_pool) (defBody s__law_pool) (defScope s__law_pool) [] [] _ fd17 := D17
  obtain ⟨fd18, D18⟩ := c.def_ 18 (d := dG "_law_draw" s__law_draw) rfl
  replace D18 : FunD K "_law_draw" "_law_draw" (defArgs s__law_draw) (defBody s__law_draw) (defScope s__law_draw) [] [] _ fd18 := D18
  obtain ⟨fd19, D19⟩ := c.def_ 19 (d := dG "_law_pick" s__law_pick) rfl
  replace D19 : FunD K "_law_pick" "_law_pick" (defArgs s__law_pick) (defBody s__law_pick) (defScope s__law_pick) [] [] _ fd19 := D19
  obtain ⟨fd20, D20⟩ := c.def_ 20 (d := dG "_law_name" s__law_name) rfl
  replace D20 : FunD K "_law_name" "_law_name" (defArgs s__law_name) (defBody s__law_name) (defScope s__law_name) [] [] _ fd20 := D20
  obtain ⟨fd21, D21⟩ := c.def_ 21 (d := dG "_law_names" s__law_names) rfl
  replace D21 : FunD K "_law_names" "_law_names" (defArgs s__law_names) (defBody s__law_names) (defScope s__law_names) [] [] _ fd21 := D21
  obtain ⟨fd22, D22⟩ := c.def_ 22 (d := dG "_law_whole" s__law_whole) rfl
  replace D22 : FunD K "_law_whole" "_law_whole" (defArgs s__law_whole) (defBody s__law_whole) (defScope s__law_whole) [] [] _ fd22 := D22
  obtain ⟨fd23, D23⟩ := c.def_ 23 (d := dG "_law_is_name" s__law_is_name) rfl
  replace D23 : FunD K "_law_is_name" "_law_is_name" (defArgs s__law_is_name) (defBody s__law_is_name) (defScope s__law_is_name) [] [] _ fd23 := D23
  obtain ⟨fd24, D24⟩ := c.def_ 24 (d := dG "_law_rises" s__law_rises) rfl
  replace D24 : FunD K "_law_rises" "_law_rises" (defArgs s__law_rises) (defBody s__law_rises) (defScope s__law_rises) [] [] _ fd24 := D24
  obtain ⟨fd25, D25⟩ := c.def_ 25 (d := dG "_law_odd_wish" s__law_odd_wish) rfl
  replace D25 : FunD K "_law_odd_wish" "_law_odd_wish" (defArgs s__law_odd_wish) (defBody s__law_odd_wish) (defScope s__law_odd_wish) [] [] _ fd25 := D25
  obtain ⟨fd26, D26⟩ := c.def_ 26 (d := dG "_law_draw_wish" s__law_draw_wish) rfl
  replace D26 : FunD K "_law_draw_wish" "_law_draw_wish" (defArgs s__law_draw_wish) (defBody s__law_draw_wish) (defScope s__law_draw_wish) [] [] _ fd26 := D26
  obtain ⟨fd27, D27⟩ := c.def_ 27 (d := dG "_law_row_text" s__law_row_text) rfl
  replace D27 : FunD K "_law_row_text" "_law_row_text" (defArgs s__law_row_text) (defBody s__law_row_text) (defScope s__law_row_text) [] [] _ fd27 := D27
  obtain ⟨fd28, D28⟩ := c.def_ 28 (d := dG "_law_text" s__law_text) rfl
  replace D28 : FunD K "_law_text" "_law_text" (defArgs s__law_text) (defBody s__law_text) (defScope s__law_text) [] [] _ fd28 := D28
  obtain ⟨fd29, D29⟩ := c.def_ 29 (d := dG "_law_row" s__law_row) rfl
  replace D29 : FunD K "_law_row" "_law_row" (defArgs s__law_row) (defBody s__law_row) (defScope s__law_row) [] [] _ fd29 := D29
  obtain ⟨fd30, D30⟩ := c.def_ 30 (d := dG "_law_number" s__law_number) rfl
  replace D30 : FunD K "_law_number" "_law_number" (defArgs s__law_number) (defBody s__law_number) (defScope s__law_number) [] [] _ fd30 := D30
  obtain ⟨fd31, D31⟩ := c.def_ 31 (d := dG "_law_meant" s__law_meant) rfl
  replace D31 : FunD K "_law_meant" "_law_meant" (defArgs s__law_meant) (defBody s__law_meant) (defScope s__law_meant) [] [] _ fd31 := D31
  obtain ⟨fd32, D32⟩ := c.def_ 32 (d := dG "_law_is_form" s__law_is_form) rfl
  replace D32 : FunD K "_law_is_form" "_law_is_form" (defArgs s__law_is_form) (defBody s__law_is_form) (defScope s__law_is_form) [] [] _ fd32 := D32
  obtain ⟨fd33, D33⟩ := c.def_ 33 (d := dG "_law_is_any" s__law_is_any) rfl
  replace D33 : FunD K "_law_is_any" "_law_is_any" (defArgs s__law_is_any) (defBody s__law_is_any) (defScope s__law_is_any) [] [] _ fd33 := D33
  obtain ⟨fd34, D34⟩ := c.def_ 34 (d := dG "_law_spoiled" s__law_spoiled) rfl
  replace D34 : FunD K "_law_spoiled" "_law_spoiled" (defArgs s__law_spoiled) (defBody s__law_spoiled) (defScope s__law_spoiled) [] [] _ fd34 := D34
  obtain ⟨fd35, D35⟩ := c.def_ 35 (d := dG "_law_told" s__law_told) rfl
  replace D35 : FunD K "_law_told" "_law_told" (defArgs s__law_told) (defBody s__law_told) (defScope s__law_told) [] [] _ fd35 := D35
  have e0 := hfa.symm.trans (gl (x := "law") (by decide +kernel))
  cases e0
  have E0 : Df K mg "law" s_law _ fd0 ["_law_script"] := ⟨D0, hfa, D0.bindsN fun _ _ _ _ _ _ us hl => match us, hl with | [_], _ => rfl⟩
  have E1 : Df K mg "is_integer" s_is_integer _ fd1 ["thing"] := ⟨D1, gl (x := "is_integer") (by decide +kernel), D1.bindsN fun _ _ _ _ _ _ us hl => match us, hl with | [_], _ => rfl⟩
  have E2 : Df K mg "is_flag" s_is_flag _ fd2 ["thing"] := ⟨D2, gl (x := "is_flag") (by decide +kernel), D2.bindsN fun _ _ _ _ _ _ us hl => match us, hl with | [_], _ => rfl⟩
  have E3 : Df K mg "is_name" s_is_name _ fd3 ["thing"] := ⟨D3, gl (x := "is_name") (by decide +kernel), D3.bindsN fun _ _ _ _ _ _ us hl => match us, hl with | [_], _ => rfl⟩
  have E4 : Df K mg "is_tuple_of" s_is_tuple_of _ fd4 ["thing", "many"] := ⟨D4, gl (x := "is_tuple_of") (by decide +kernel), D4.bindsN fun _ _ _ _ _ _ us hl => match us, hl with | [_, _], _ => rfl⟩
  have E5 : Df K mg "is_index" s_is_index _ fd5 ["thing", "many"] := ⟨D5, gl (x := "is_index") (by decide +kernel), D5.bindsN fun _ _ _ _ _ _ us hl => match us, hl with | [_, _], _ => rfl⟩
  have E6 : Df K mg "is_count" s_is_count _ fd6 ["thing"] := ⟨D6, gl (x := "is_count") (by decide +kernel), D6.bindsN fun _ _ _ _ _ _ us hl => match us, hl with | [_], _ => rfl⟩
  have E7 : Df K mg "is_form" s_is_form _ fd7 ["thing"] := ⟨D7, gl (x := "is_form") (by decide +kernel), D7.bindsN fun _ _ _ _ _ _ us hl => match us, hl with | [_], _ => rfl⟩
  have E8 : Df K mg "is_word" s_is_word _ fd8 ["thing", "word"] := ⟨D8, gl (x := "is_word") (by decide +kernel), D8.bindsN fun _ _ _ _ _ _ us hl => match us, hl with | [_, _], _ => rfl⟩
  have E9 : Df K mg "is_tuple_of_words" s_is_tuple_of_words _ fd9 ["thing"] := ⟨D9, gl (x := "is_tuple_of_words") (by decide +kernel), D9.bindsN fun _ _ _ _ _ _ us hl => match us, hl with | [_], _ => rfl⟩
  have E10 : Df K mg "is_numeral" s_is_numeral _ fd10 ["text", "most"] := ⟨D10, gl (x := "is_numeral") (by decide +kernel), D10.bindsN fun _ _ _ _ _ _ us hl => match us, hl with | [_, _], _ => rfl⟩
  have E11 : Df K mg "worded" s_worded _ fd11 ["wish"] := ⟨D11, gl (x := "worded") (by decide +kernel), D11.bindsN fun _ _ _ _ _ _ us hl => match us, hl with | [_], _ => rfl⟩
  have E12 : Df K mg "read_wish" s_read_wish _ fd12 ["text"] := ⟨D12, gl (x := "read_wish") (by decide +kernel), D12.bindsN fun _ _ _ _ _ _ us hl => match us, hl with | [_], _ => rfl⟩
  have E13 : Df K mg "wish_of" s_wish_of _ fd13 ["words"] := ⟨D13, gl (x := "wish_of") (by decide +kernel), D13.bindsN fun _ _ _ _ _ _ us hl => match us, hl with | [_], _ => rfl⟩
  have E14 : Df K mg "row_worded" s_row_worded _ fd14 ["words"] := ⟨D14, gl (x := "row_worded") (by decide +kernel), D14.bindsN fun _ _ _ _ _ _ us hl => match us, hl with | [_], _ => rfl⟩
  have E15 : Df K mg "row_of" s_row_of _ fd15 ["text"] := ⟨D15, gl (x := "row_of") (by decide +kernel), D15.bindsN fun _ _ _ _ _ _ us hl => match us, hl with | [_], _ => rfl⟩
  have E16 : Df K mg "number_of" s_number_of _ fd16 ["text"] := ⟨D16, gl (x := "number_of") (by decide +kernel), D16.bindsN fun _ _ _ _ _ _ us hl => match us, hl with | [_], _ => rfl⟩
  have E17 : Df K mg "_law_pool" s__law_pool _ fd17 ["_law_script"] := ⟨D17, gl (x := "_law_pool") (by decide +kernel), D17.bindsN fun _ _ _ _ _ _ us hl => match us, hl with | [_], _ => rfl⟩
  have E18 : Df K mg "_law_draw" s__law_draw _ fd18 ["_law_pool_here", "_law_many"] := ⟨D18, gl (x := "_law_draw") (by decide +kernel), D18.bindsN fun _ _ _ _ _ _ us hl => match us, hl with | [_, _], _ => rfl⟩
  have E19 : Df K mg "_law_pick" s__law_pick _ fd19 ["_law_pool_here", "_law_items"] := ⟨D19, gl (x := "_law_pick") (by decide +kernel), D19.bindsN fun _ _ _ _ _ _ us hl => match us, hl with | [_, _], _ => rfl⟩
  have E20 : Df K mg "_law_name" s__law_name _ fd20 ["_law_pool_here", "_law_taken"] := ⟨D20, gl (x := "_law_name") (by decide +kernel), D20.bindsN fun _ _ _ _ _ _ us hl => match us, hl with | [_, _], _ => rfl⟩
  have E21 : Df K mg "_law_names" s__law_names _ fd21 ["_law_pool_here", "_law_many"] := ⟨D21, gl (x := "_law_names") (by decide +kernel), D21.bindsN fun _ _ _ _ _ _ us hl => match us, hl with | [_, _], _ => rfl⟩
  have E22 : Df K mg "_law_whole" s__law_whole _ fd22 ["_law_thing"] := ⟨D22, gl (x := "_law_whole") (by decide +kernel), D22.bindsN fun _ _ _ _ _ _ us hl => match us, hl with | [_], _ => rfl⟩
  have E23 : Df K mg "_law_is_name" s__law_is_name _ fd23 ["_law_thing"] := ⟨D23, gl (x := "_law_is_name") (by decide +kernel), D23.bindsN fun _ _ _ _ _ _ us hl => match us, hl with | [_], _ => rfl⟩
  have E24 : Df K mg "_law_rises" s__law_rises _ fd24 ["_law_thing"] := ⟨D24, gl (x := "_law_rises") (by decide +kernel), D24.bindsN fun _ _ _ _ _ _ us hl => match us, hl with | [_], _ => rfl⟩
  have E25 : Df K mg "_law_odd_wish" s__law_odd_wish _ fd25 ["_law_pool_here", "_law_wish"] := ⟨D25, gl (x := "_law_odd_wish") (by decide +kernel), D25.bindsN fun _ _ _ _ _ _ us hl => match us, hl with | [_, _], _ => rfl⟩
  have E26 : Df K mg "_law_draw_wish" s__law_draw_wish _ fd26 ["_law_pool_here"] := ⟨D26, gl (x := "_law_draw_wish") (by decide +kernel), D26.bindsN fun _ _ _ _ _ _ us hl => match us, hl with | [_], _ => rfl⟩
  have E27 : Df K mg "_law_row_text" s__law_row_text _ fd27 ["_law_words"] := ⟨D27, gl (x := "_law_row_text") (by decide +kernel), D27.bindsN fun _ _ _ _ _ _ us hl => match us, hl with | [_], _ => rfl⟩
  have E28 : Df K mg "_law_text" s__law_text _ fd28 ["_law_wish"] := ⟨D28, gl (x := "_law_text") (by decide +kernel), D28.bindsN fun _ _ _ _ _ _ us hl => match us, hl with | [_], _ => rfl⟩
  have E29 : Df K mg "_law_row" s__law_row _ fd29 ["_law_text_here"] := ⟨D29, gl (x := "_law_row") (by decide +kernel), D29.bindsN fun _ _ _ _ _ _ us hl => match us, hl with | [_], _ => rfl⟩
  have E30 : Df K mg "_law_number" s__law_number _ fd30 ["_law_text_here"] := ⟨D30, gl (x := "_law_number") (by decide +kernel), D30.bindsN fun _ _ _ _ _ _ us hl => match us, hl with | [_], _ => rfl⟩
  have E31 : Df K mg "_law_meant" s__law_meant _ fd31 ["_law_text_here"] := ⟨D31, gl (x := "_law_meant") (by decide +kernel), D31.bindsN fun _ _ _ _ _ _ us hl => match us, hl with | [_], _ => rfl⟩
  have E32 : Df K mg "_law_is_form" s__law_is_form _ fd32 ["_law_wish"] := ⟨D32, gl (x := "_law_is_form") (by decide +kernel), D32.bindsN fun _ _ _ _ _ _ us hl => match us, hl with | [_], _ => rfl⟩
  have E33 : Df K mg "_law_is_any" s__law_is_any _ fd33 ["_law_thing"] := ⟨D33, gl (x := "_law_is_any") (by decide +kernel), D33.bindsN fun _ _ _ _ _ _ us hl => match us, hl with | [_], _ => rfl⟩
  have E34 : Df K mg "_law_spoiled" s__law_spoiled _ fd34 ["_law_pool_here", "_law_text_here"] := ⟨D34, gl (x := "_law_spoiled") (by decide +kernel), D34.bindsN fun _ _ _ _ _ _ us hl => match us, hl with | [_, _], _ => rfl⟩
  have E35 : Df K mg "_law_told" s__law_told _ fd35 ["_law_call", "_law_thing"] := ⟨D35, gl (x := "_law_told") (by decide +kernel), D35.bindsN fun _ _ _ _ _ _ us hl => match us, hl with | [_, _], _ => rfl⟩
  have i0 := He.int_ok X Gn (c.fact (f := .int "MOST_LETTERS" 10) (ot_mem 0 rfl))
  have i1 := He.int_ok X Gn (c.fact (f := .int "MOST_COUNT" 1000) (ot_mem 1 rfl))
  have i2 := He.int_ok X Gn (c.fact (f := .int "MOST_DIGITS" 4) (ot_mem 2 rfl))
  have w0 := He.str_ok X Gn (c.fact (f := .str "KEPT" tKept) (ot_mem 3 rfl))
  have w1 := He.str_ok X Gn (c.fact (f := .str "TOLD" tTold) (ot_mem 4 rfl))
  have w2 := He.str_ok X Gn (c.fact (f := .str "WARNED" tWarned) (ot_mem 5 rfl))
  have w3 := He.str_ok X Gn (c.fact (f := .str "HIDDEN" tHidden) (ot_mem 6 rfl))
  have w4 := He.str_ok X Gn (c.fact (f := .str "SURE" tSure) (ot_mem 7 rfl))
  have w5 := He.str_ok X Gn (c.fact (f := .str "WITHIN" tWithin) (ot_mem 8 rfl))
  have w6 := He.str_ok X Gn (c.fact (f := .str "AHEAD" tAhead) (ot_mem 9 rfl))
  have w7 := He.str_ok X Gn (c.fact (f := .str "JOINTLY" tJointly) (ot_mem 10 rfl))
  have w8 := He.str_ok X Gn (c.fact (f := .str "BY" tBy) (ot_mem 11 rfl))
  have w9 := He.str_ok X Gn (c.fact (f := .str "NO_WORDS" mn1) (ot_mem 12 rfl))
  have WD : Wd mg := ⟨w0, w1, w2, w3, w4, w5, w6, w7, w8, w9⟩
  have xx : (exL K).all id = true := c.ext
  have top0 : (Pr.main.scope.names.lookup ("super" : Str)).isSome = false := by kernel_rfl
  obtain ⟨fdW, dW, findW, typW⟩ := exdB_ok (P := Pr) (d := dE "BadWish" "BadWish.__init__" s_BadWish) (all_at xx 0 rfl) (ce.exc 0) (fr (x := "super") (by decide +kernel)) top0
  obtain ⟨fdT, dT, findT, typT⟩ := exdB_ok (P := Pr) (d := dE "BadText" "BadText.__init__" s_BadText) (all_at xx 1 rfl) (ce.exc 1) (fr (x := "super") (by decide +kernel)) top0
  replace dW : ExD Pr K mg (He.ga K "BadWish") (exI K "BadWish") (exCc K "BadWish") (exCda K "BadWish") "BadWish.__init__" (defArgs s_BadWish) (defBody s_BadWish) (defScope s_BadWish) fdW := dW
  replace dT : ExD Pr K mg (He.ga K "BadText") (exI K "BadText") (exCc K "BadText") (exCda K "BadText") "BadText.__init__" (defArgs s_BadText) (defBody s_BadText) (defScope s_BadText) fdT := dT
  have tW : ExT "value" (defArgs s_BadWish) (defScope s_BadWish) := ⟨⟨_, rfl, rfl⟩, rfl, rfl, rfl, by decide +kernel, by rfl, by rfl, by rfl, by rfl, by decide +kernel, by decide +kernel⟩
  have tT : ExT "at" (defArgs s_BadText) (defScope s_BadText) := ⟨⟨_, rfl, rfl⟩, rfl, rfl, rfl, by decide +kernel, by rfl, by rfl, by rfl, by rfl, by decide +kernel, by decide +kernel⟩
  have xfW := xfB_ok (all_at xx 2 rfl)
  have xfT := xfB_ok (all_at xx 3 rfl)
  have nW := He.eqO_ok (all_at xx 4 rfl)
  have nT := He.eqO_ok (all_at xx 5 rfl)
  have ER : Er K mg (He.ga K "BadText") (He.ga K "BadWish") := ⟨gl (x := "BadText") (by decide +kernel), gl (x := "BadWish") (by decide +kernel), xfT, xfW, nT, nW, of_decide_eq_true (all_at xx 6 rfl), of_decide_eq_true (all_at xx 7 rfl), of_decide_eq_true (all_at xx 8 rfl)⟩
  refine ⟨fd0, fun s v => D0.bindsA (ps := ["_law_script"]) (fun _ _ _ _ _ _ us hl => match us, hl with | [_], _ => rfl) s [v] rfl, fun base _ _ => ?_⟩
  have X_W : ExR Pr w K mg base 1 "BadWish" (He.ga K "BadWish") "value" := ⟨dW.T, ⟨_, fdW, "value", findW, typW, fn_exc (k := 0) (msg := "this is not a wish that can be used here") tW dW rfl nW (by decide +kernel) (by decide +kernel) (fun env => ⟨_, rfl⟩) (fun env => rfl), dW.binds fun _ _ _ _ _ us hl => match us, hl with | [_, _], _ => rfl⟩, ER.gW⟩
  have X_T : ExR Pr w K mg base 1 "BadText" (He.ga K "BadText") "at" := ⟨dT.T, ⟨_, fdT, "at", findT, typT, fn_exc (k := 0) (msg := "the text, or its line with this number, is not as it must be") tT dT rfl nT (by decide +kernel) (by decide +kernel) (fun env => ⟨_, rfl⟩) (fun env => rfl), dT.binds fun _ _ _ _ _ us hl => match us, hl with | [_, _], _ => rfl⟩, ER.gT⟩
  have c_int := okg_is_integer (P := Pr) (w := w) (base := base) G E1
  have c_name := okg_is_name (P := Pr) (w := w) (base := base) G i0 E3
  have c_flag := ok_is_flag (P := Pr) (w := w) (base := base) G E2
  have c_tupof := ok_is_tuple_of (P := Pr) (w := w) (base := base) G E4
  have c_index := okg_is_index (P := Pr) (w := w) (base := base) E5 c_int
  have c_count := ok_is_count (P := Pr) (w := w) (base := base) i1 E6 c_index
  have c_word := ok_is_word (P := Pr) (w := w) (base := base) G E8
  have c_tupw := ok_is_tupW (P := Pr) (w := w) (base := base) G E9 c_name
  have c_form := ok_is_form (P := Pr) (w := w) (base := base) G WD E7 c_tupof c_word c_name c_count c_flag c_tupw
  have c_num := ok_is_num (P := Pr) (w := w) (base := base) G E10
  have c_numof := ok_num_of (P := Pr) (w := w) (base := base) G i2 E16 c_num
  have c_rowof := ok_row_of (P := Pr) (w := w) (base := base) G WD E15
  have c_wishof := ok_wish_of (P := Pr) (w := w) (base := base) G WD E13 c_numof c_rowof
  have c_roww := ok_row_worded (P := Pr) (w := w) (base := base) G WD E14
  have F_worded := okg_worded (P := Pr) (w := w) (base := base) G WD X_W E11 c_form c_roww
  have F_read := okg_read (P := Pr) (w := w) (base := base) G X_T E12 c_wishof c_form
  have c_read := E12.callee (fn_none (F_read.imp (sp := spReadG (He.ga K "BadText")) (sp' := spRead0) read0) fun _ _ _ _ z => z)
  have l_pool := ok_pool (P := Pr) (w := w) (base := base) G E17
  have l_draw := ok_draw (P := Pr) (w := w) (base := base) G E18
  have l_pick := ok_pick (P := Pr) (w := w) (base := base) G E19 l_draw
  have l_nm := ok_name (P := Pr) (w := w) (base := base) G E20 l_draw
  have l_nms := ok_names (P := Pr) (w := w) (base := base) G E21 l_nm
  have l_whole := ok_lwhole (P := Pr) (w := w) (base := base) G E22
  have l_isname := ok_lname (P := Pr) (w := w) (base := base) G E23
  have l_rises := ok_rises (P := Pr) (w := w) (base := base) G E24 l_isname
  have l_odd := ok_odd (P := Pr) (w := w) (base := base) G E25 l_pick
  have l_drawW := ok_draw_wish (P := Pr) (w := w) (base := base) G E26 l_draw l_nm l_nms
  have l_rowt := ok_row_text (P := Pr) (w := w) (base := base) G E27
  have l_text := ok_ltext (P := Pr) (w := w) (base := base) G E28 l_rowt
  have l_row := ok_lrow (P := Pr) (w := w) (base := base) G E29
  have l_num := ok_lnum (P := Pr) (w := w) (base := base) G E30
  have l_meant := ok_meant (P := Pr) (w := w) (base := base) G E31 l_num l_row
  have l_form := ok_lform (P := Pr) (w := w) (base := base) G E32 l_rises l_isname l_whole
  have l_any := ok_lany (P := Pr) (w := w) (base := base) G E33 l_form
  have l_spoil := ok_spoil (P := Pr) (w := w) (base := base) G E34 l_draw l_pick
  have l_told := ok_told (P := Pr) (w := w) (base := base) ER F_worded E11.fn.kp E11.bd F_read E12.fn.kp E12.bd E35
  exact okl_law G E11.at_ E12.at_ E0 l_pool l_drawW l_text l_told c_read l_spoil l_meant l_form l_odd l_any l_pick
end WK
open PySem PySem.W PySem.Calls PyProof.Rows
theorem PySem.Challenge.cw_watchedworks_k75_wordings_of_wishes_holds : PySem.Challenge.rw_watchedworks_k75_wordings_of_wishes.Holds := by
  w_on; o_law
  refine HandSHeadRun.head_any (r := OpenLaw.row PySem.Challenge.rw_watchedworks_k75_wordings_of_wishes) (q := view (OpenLaw.row PySem.Challenge.rw_watchedworks_k75_wordings_of_wishes).prog [58]) (H := WK.hk) (ob := WK.ob) (M := 12000) (loose := WK.loose) (d := HandSHeadRun.topDef (OpenLaw.row PySem.Challenge.rw_watchedworks_k75_wordings_of_wishes).prog 58) (kwd := []) WK.ob_eq
    (by kernel_rfl) (fun s => by kernel_rfl) WK.run (by kernel_rfl) (by kernel_rfl) (by kernel_rfl) (by rfl) (by first | assumption | decide +kernel) (by decide +kernel) ⟨rfl, rfl, rfl, rfl, rfl, by decide +kernel⟩ ?hw ?hc
  case hw => w_witness2
  case hc =>
    refine L2.walk_ofE (l := PySem.Challenge.rw_watchedworks_k75_wordings_of_wishes) (n := 63) (k := 7) (x := "_law_script") (CX := WW.CXn) rfl (by decide) (by kernel_rfl) ⟨rfl, by decide, by decide⟩ ?F (fun _ _ _ _ z => z)
    intro w mg fa h Y G hmg0
    obtain ⟨K, KX, c⟩ := Y
    have hmg : mg ("law" : PySem.Str) = some (.ref fa) := by
      have e : (HandSHeadRun.topDef (OpenLaw.row PySem.Challenge.rw_watchedworks_k75_wordings_of_wishes).prog 58).name = ("law" : PySem.Str) := by kernel_rfl
      rw [← e]
      exact hmg0
    obtain ⟨fd, hb, hF⟩ := WK.facts (w := w) KX G hmg c
    exact ⟨K, fd, WK.spLaw K, KX, hb, fun H a ns hl _ hS => ⟨a, ns, rfl, hS, fun _ => rfl⟩, hF⟩
