import PyProof.Rows.All
import Wide.All
import OpenK.AllK
import Wide.FinOn
import PyProof.EqAt
import PyProof.EqKinds
import PyProof.TupleCall
import KE.SortData
import HandS.Base
import HandS.Call
import HandS.List
import HandS.Comp
import HandS.Ends
import HandS.Set
import HandS.SetBool
import PyProof.InstEq
import PyProof.InstNe
import PyProof.TupleOfSeq
import PyProof.P3In
import KE.GoesEnum
import HandS.Iter
import HandS.Deep
import HandS.Evl
import HandS.More
import HandS.IsInst
import HandS.TupAny
import HandS.Words
import KE.KStateDown
import HandS.WordsExc
import HandS.Defaults
import HandS.Property
import HandS.Head0
import HandS.Head1
import HandS.Head2
import HandS.HeadEnd
import HandS.HeadHook1
import HandS.HeadHook2
import HandS.HeadNt
import KE.KExcSuper
import HandS.Exc
import HandS.ExcInit
import HandS.ExcSuper
import HandS.ExcIs
import HandS.ExcField
import KE.KExcIs
import HandS.ExcOwn
import HandS.SetFor
import HandS.Strs
import HandS.Style
import HandS.Text
import HandS.WordsList
import HandS.Dict
import PySem.Challenge.RW_watchedworks_k00_hands_told_and_refused
set_option Elab.async false
set_option linter.all false
set_option maxRecDepth 100000
set_option maxHeartbeats 4000000
/-! Rules of our own over the layer: callees by name, sorted lists of data -/
namespace WW
open PySem PySem.Spec PyProof.Rows L2

/-- nothing is wished of exceptions -/
abbrev CXn : CXT := fun _ _ _ _ _ _ => False
abbrev En : XK := fun _ _ _ => False
theorem passN {X : Cx} {E : XK} : Passes CXn X E := fun _ _ _ _ _ _ _ h => h.elim

/-- a def of the module's, found by its name, with what it promises -/
structure Callee (P : Program) (w : World) (K : PySem.W.Frag) (mg : Str → Option Value) (base : Heap) (CX : CXT) (k : Nat) (x : Str) (n : Nat) (sp : Sp) : Prop where
  ex : ∃ (f : Addr) (fd : FuncData) (ps : List Str), ps.length = n ∧ FnOk P w K mg base CX k f fd ps sp ∧ mg x = some (.ref f) ∧ PySem.W.keepIn K (.ref f) = true ∧ Binds K fd ps []

section
variable {X : Cx} {CX : CXT} {k n : Nat} {sp : Sp} {E : XK} {x : Str} {p pos : Pos} {e : Expr} {es : List Expr} {t : TA}
theorem pe_cl (c : Callee X.prog X.w X.K X.mg X.base CX k x n sp) (hr : Room k X.A) (hg : Gl X x) (hx : Passes CX X E) (ha : PA X (e :: es) t)
    (hdb : (x == ("__debug__" : Str)) = false := by decide) (he : starEach (e :: es) X.env = (false, eval e X.env) :: starEach es X.env := by rfl) (hpl : (backTo pos (starEach es X.env)).any (·.1) = false := by rfl) :
    PE X (.Call (.Name x p) (e :: es) [] pos) (tCall sp [] E t) := by
  obtain ⟨f, fd, ps, _, F, hm, hk, hb⟩ := c.ex
  exact pe_call F hr hg hm hk hb .nil hx ha hdb he hpl
end

/-! ### sorted of lists of data -/
/-- v stands for the datum of b -/
abbrev DpE {β : Type} (K : PySem.W.Frag) (H : Hp) (enc : β → PyData) (v : V) (b : β) : Prop := Dp K H v (enc b)

def rSortD {β : Type} (K : PySem.W.Frag) (enc : β → PyData) : List V → Hp → VK → Prop := fun vs H Q => ∃ (a : Addr) (xs : List V) (bs : List β) (F : V → β → Prop), vs = [V.ref a] ∧ SqL K H a xs ∧ Paired (fun v b => F v b ∧ DpE K H enc v b) xs bs ∧
  (∀ b b', PySem.W.alike (enc b) (enc b') = true) ∧ PySem.W.Sortable (bs.map enc) ∧ (∀ b, (enc b).depth ≤ 32) ∧
  ∀ (ys : List V) (p : Addr), Paired F ys (bs.mergeSort (PySem.W.dataLe false enc)) → H p = none → Q (.ref p) (upd H p (.lst ys))


theorem each_of {β : Type} {K : PySem.W.Frag} {H : Hp} {enc : β → PyData} {F : V → β → Prop} : ∀ {xs : List V} {us : List Value} {bs : List β}, Vals xs us → Paired (fun v b => F v b ∧ DpE K H enc v b) xs bs →
    PySem.W.EachIs (fun u b => ∃ v, F v b ∧ RelV v u ∧ Dp K H v (enc b)) us bs
  | _, _, _, .nil, .nil => .nil
  | _, _, _, .cons r t, .cons d e => .cons ⟨_, d.1, r, d.2⟩ (each_of t e)
theorem of_each {β : Type} {F : V → β → Prop} {G : Value → β → Prop} (h : ∀ u b, G u b → ∃ v, RelV v u ∧ F v b) : ∀ {us : List Value} {bs : List β}, PySem.W.EachIs G us bs → ∃ ys, Vals ys us ∧ Paired F ys bs
  | _, _, .nil => ⟨[], .nil, .nil⟩
  | _, _, .cons g t => by
    obtain ⟨v, r, f⟩ := h _ _ g
    obtain ⟨ys, a, b⟩ := of_each h t
    exact ⟨v :: ys, .cons r a, .cons f b⟩
theorem each_reads {β : Type} {X : Cx} {pins : List (Addr × Obj)} {σ : L2.St} {H : Hp} {s : Shared} {enc : β → PyData} (I : Inv X pins σ H s) : ∀ {us : List Value} {bs : List β} {F : V → β → Prop}, PySem.W.EachIs (fun u b => ∃ v, F v b ∧ RelV v u ∧ Dp X.K H v (enc b)) us bs →
    PySem.W.EachIs (fun u b => ∃ as, Reads s.heap u (enc b) as) us bs
  | _, _, _, .nil => .nil
  | _, _, _, .cons ⟨v, _, r, d⟩ t => .cons (Dp.reads I _ _ _ d r) (each_reads I t)

theorem cr_sortD {X : Cx} {β : Type} (enc : β → PyData) (hu : X.A.units + 64 < cLine) : CallR X (.builtin "sorted") (rSortD X.K enc) := by
  intro pins s σ H vs us Q I r h
  obtain ⟨a, xs, bs, F, rfl, hs, hp, hal, hso, hdp, q⟩ := h
  obtain ⟨its, rv, hl, hz⟩ := I.list hs
  rw [Vals.ref1 r]
  have hlen : bs.length = xs.length := (Paired.length hp).symm
  have e1 := each_of rv hp
  refine PySem.W.sorted_data hl.isList e1 (each_reads I e1) (PySem.W.AllAlike.of hal) hso (by omega) (fun b _ => by have := hdp b; omega) fun out ho eo => ?_
  obtain ⟨ep, he'⟩ := PyProof.Rows.sortedAll_at s.heap its out.toArray
  obtain ⟨ys, rys, pys⟩ := of_each (F := F) (fun u b ⟨v, m, r, d⟩ => ⟨v, r, m⟩) eo
  have hly : ys.length ≤ sizeLine := by rw [rys.length, ho, hlen]; exact hz
  exact ⟨.ref _, upd H (s.heap.objs.size + 1) (.lst ys), I.laid (t' := s.toks) (fun _ _ => PyProof.Rows.sortedAll_old) (Nat.le_succ _) ⟨hly, out, ep, rys, he'⟩, rfl, q ys _ pys (I.hok.fresh (Nat.le_succ _))⟩
end WW

set_option Elab.async false
set_option linter.all false
set_option maxRecDepth 100000
set_option maxHeartbeats 4000000
/-! Sets of scannable keys that can be walked: made, filled, sorted. -/
namespace WW
open PySem PySem.Spec PyProof.Rows L2

section
variable {P : Program} {w : World} {κ : Type} [DecidableEq κ]
def EnK (knd : PySem.KeyKind P w κ) (k : κ) (e : Int × Value) : Prop := knd.is k e.2 = true ∧ e.1 = knd.hash k ∧ e.2.scannable = true
/-- ks: the keys that the set holds, in its table's order -/
def SetW (knd : PySem.KeyKind P w κ) (h : Heap) (a : Addr) (ks : List κ) : Prop :=
  ∃ o es ep t, h.get? a = some o ∧ o.ExactSet ∧ o.data = .set es ep t ∧ ks.Nodup ∧ Paired (EnK knd) ks es.toList ∧
    es.size < scanBound ∧ t.fits es.size = true ∧ Ris t.place.toList ∧ (w.params.followText "set-order" = true ∨ t.led = true)
variable {knd : PySem.KeyKind P w κ} {h h' : Heap} {a : Addr} {ks : List κ}

theorem SetW.here (R : SetW knd h a ks) (k : ∀ o, h.get? a = some o → h'.get? a = some o) : SetW knd h' a ks := by
  obtain ⟨o, es, ep, t, ho, r⟩ := R
  exact ⟨o, es, ep, t, k o ho, r⟩
theorem en_mem {l : List (Int × Value)} : ∀ {ks : List κ}, Paired (EnK knd) ks l → ∀ e ∈ l, ∃ k ∈ ks, EnK knd k e
  | _, .nil, e, he => by cases he
  | _, .cons g t, e, he => by
    rcases List.mem_cons.mp he with rfl | he
    · exact ⟨_, List.mem_cons_self, g⟩
    · obtain ⟨k, hk, q⟩ := en_mem t e he
      exact ⟨k, List.mem_cons_of_mem _ hk, q⟩
theorem en_of : ∀ {ks : List κ} {l : List (Int × Value)}, Paired (EnK knd) ks l → ∀ k ∈ ks, ∃ e ∈ l, EnK knd k e
  | _, _, .nil, k, hk => by cases hk
  | _, _, .cons g t, k, hk => by
    rcases List.mem_cons.mp hk with rfl | hk
    · exact ⟨_, List.mem_cons_self, g⟩
    · obtain ⟨e, he, q⟩ := en_of t k hk
      exact ⟨e, List.mem_cons_of_mem _ he, q⟩
theorem en_elems {l : List (Int × Value)} (g : Paired (EnK knd) ks l) : PySem.ElemsOf knd l := fun e he => by
  obtain ⟨k, _, q⟩ := en_mem g e he
  exact ⟨⟨k, q.1, q.2.1⟩, q.2.2⟩
/-- the keys follow the entries into any order -/
theorem en_perm {l : List (Int × Value)} (g : Paired (EnK knd) ks l) {l' : List (Int × Value)} (p : l'.Perm l) : ∃ ks', ks'.Perm ks ∧ Paired (EnK knd) ks' l' := by
  induction p generalizing ks with
  | nil => exact ⟨ks, List.Perm.refl _, g⟩
  | cons x _ ih =>
    cases g with
    | @cons k _ kr _ g1 g2 =>
      obtain ⟨ks', p', g'⟩ := ih g2
      exact ⟨k :: ks', p'.cons k, .cons g1 g'⟩
  | swap x y l =>
    cases g with
    | @cons k _ kr _ g1 g2 =>
      cases g2 with
      | @cons k2 _ kr2 _ g3 g4 => exact ⟨k2 :: k :: kr2, List.Perm.swap _ _ _, .cons g3 (.cons g1 g4)⟩
  | trans _ _ ih1 ih2 =>
    obtain ⟨k2, p2, g2⟩ := ih2 g
    obtain ⟨k1, p1, g1⟩ := ih1 g2
    exact ⟨k1, p1.trans p2, g1⟩
theorem en_app {l : List (Int × Value)} (g : Paired (EnK knd) ks l) {k : κ} {e : Int × Value} (q : EnK knd k e) : Paired (EnK knd) (ks ++ [k]) (l ++ [e]) := by
  induction g with
  | nil => exact .cons q .nil
  | cons g1 _ ih => exact .cons g1 ih
end

section
variable {P : Program} {w : World} {κ : Type} [DecidableEq κ] {knd : PySem.KeyKind P w κ} {A : Around} {E : Value → Shared → Prop} {s : Shared} {a : Addr} {ks : List κ}

theorem put_at {h : Heap} {o : Obj} {es es' : Array (Int × Value)} {ep : Nat} {t t' : SetTable} (ho : h.get? a = some o) (hd : o.data = .set es ep t) :
    (h.update a (Obj.putSet es' t')).get? a = some { o with data := .set es' (ep + 1) t' } := PpSet.storeB_at ho hd

/-- the end of an addition: stored, and laid anew where it is too full -/
theorem setw_tail {gv : Bool → Sem Unit} (hg : ∀ (b : Bool) (s1 : Shared) (Q' : Unit → Shared → Prop), Q' () s1 → wpAny (model P w) A (gv b) Q' E s1)
    {o : Obj} {es : Array (Int × Value)} {ep : Nat} {t : SetTable} (ho : s.heap.get? a = some o) (hex : o.ExactSet) (hd : o.data = .set es ep t)
    {es1 : Array (Int × Value)} {t2 : SetTable} {k1 : List κ} (nd1 : k1.Nodup) (g1 : Paired (EnK knd) k1 es1.toList)
    (hb1 : es1.size < scanBound) (hf2 : t2.fits es1.size = true) (hr : Ris t2.place.toList) (hl : w.params.followText "set-order" = true ∨ t2.led = true) {wd : Bool} {R : Option Bool → Shared → Prop}
    (hR : ∀ h' k2, k2.Perm k1 → Heap.SameBut a s.heap h' → SetW knd h' a k2 → R (some true) { s with heap := h' }) :
    wpAny (model P w) A (do
        storeSet a es1 t2
        if (!wd && t2.tooFull) = true then do
            gv (relayAll t2 es1 (SetTable.grown es1.size)).2.2
            storeSet a (relayAll t2 es1 (SetTable.grown es1.size)).1 (relayAll t2 es1 (SetTable.grown es1.size)).2.1
            pure (some true)
          else pure (some true)) R E s := by
  refine wpAny_bind (wpAny_storeSet_of ho hd ?_ (fits_of_scanBound hb1))
  have hput := put_at (es' := es1) (t' := t2) ho hd
  have same1 := Heap.SameBut.update s.heap a (Obj.putSet es1 t2)
  split
  · have pm := relayAll_perm t2 es1 (SetTable.grown es1.size)
    have f3 := relayAll_fits t2 es1 (SetTable.grown es1.size)
    have r3 := relayAll_ris t2 es1 (SetTable.grown es1.size)
    have l3 := relayAll_led t2 es1 (SetTable.grown es1.size)
    revert pm f3 r3 l3
    rcases relayAll t2 es1 (SetTable.grown es1.size) with ⟨es2, t3, gave⟩
    intro pm f3 r3 l3
    dsimp only at pm f3 r3 l3 ⊢
    have size2 : es2.size = es1.size := by rw [← Array.length_toList, pm.length_eq, Array.length_toList]
    have small2 : es2.size < scanBound := by rw [size2]; exact hb1
    obtain ⟨k2, pk, g2⟩ := en_perm g1 pm
    refine wpAny_bind (hg _ _ _ ?_)
    refine wpAny_bind (wpAny_storeSet_of hput rfl ?_ (fits_of_scanBound small2))
    refine wpAny_pure (hR _ k2 pk (same1.trans (Heap.SameBut.update _ a _)) ?_)
    exact ⟨_, es2, _, t3, put_at hput rfl, hex, rfl, pk.nodup_iff.mpr nd1, g2, small2, f3, r3, hl.imp id fun z => by rw [l3]; exact z⟩
  · exact wpAny_pure (hR _ k1 (List.Perm.refl _) same1 ⟨_, es1, _, t2, hput, hex, rfl, nd1, g1, hb1, hf2, hr, hl⟩)

/-- what an addition leaves -/
def Added (ks : List κ) (k : κ) (ks' : List κ) : Prop := (k ∈ ks ∧ ks' = ks) ∨ (k ∉ ks ∧ ks'.Perm (k :: ks))
theorem setw_addHashed {k : κ} {v : Value} {Q : Bool → Shared → Prop} (hk : knd.is k v = true) (hv : v.scannable = true) (R : SetW knd s.heap a ks) (room : ks.length + 1 < scanBound)
    (hQ : ∀ b h' ks', Heap.SameBut a s.heap h' → SetW knd h' a ks' → Added ks k ks' → Q b { s with heap := h' }) :
    wpAny (model P w) A (setAddHashed a v (knd.hash k)) Q E s := by
  have R0 := R
  obtain ⟨o, es, ep, t, ho, hex, hd, nd, g, hb, hf, hr, hl⟩ := R
  have hel := en_elems g
  have hlen : es.size = ks.length := by rw [← Array.length_toList]; exact (Paired.length g).symm
  unfold setAddHashed setAddHashedIn
  refine wpAny_holding (wpAny_bind (wpAny_setState_of ho hd hf ?_))
  dsimp only
  rw [byScan_of hv hb hel]
  simp only [↓reduceIte]
  unfold setAddByScan
  refine wpAny_bind (wpAny_bind (wpAny_rule ?_))
  refine wpAny_bind (wpAny_setScan_of hk ho hd hf hel ?_)
  cases hfi : List.findIdx? (fun e => knd.is k e.2) es.toList with
  | some j =>
    dsimp only
    obtain ⟨hj, pj, _⟩ := List.findIdx?_eq_some_iff_getElem.mp hfi
    obtain ⟨k0, m0, q0⟩ := en_mem g _ (List.getElem_mem hj)
    have e0 : k0 = k := knd.inj _ _ _ q0.1 pj
    exact wpAny_pure (wpAny_pure (hQ false s.heap ks (Heap.SameBut.refl a s.heap) R0 (.inl ⟨e0 ▸ m0, rfl⟩)))
  | none =>
    dsimp only
    have hnk : k ∉ ks := fun z => by
      obtain ⟨e, he, q⟩ := en_of g k z
      have c := List.findIdx?_eq_none_iff.mp hfi e he
      rw [q.1] at c
      cases c
    have hgw : ∀ (b : Bool) (s1 : Shared) (Q' : Unit → Shared → Prop), Q' () s1 → wpAny (model P w) A (match b with | true => rule "set.scan.the-table-gave-way" | false => pure ()) Q' E s1 := by
      intro b s1 Q' q
      cases b
      · exact wpAny_pure q
      · exact wpAny_rule q
    have pm := layNew_perm t es (knd.hash k) v
    have f1 := layNew_fits t es (knd.hash k) v
    have r1 := layNew_ris t es (knd.hash k) v hr
    have l1 := layNew_led t es (knd.hash k) v
    revert pm f1 r1 l1
    rcases layNew t es (knd.hash k) v with ⟨es1, t1, wd, gave⟩
    intro pm f1 r1 l1
    dsimp only at pm f1 r1 l1 ⊢
    rw [Array.toList_push] at pm
    obtain ⟨k1, pk, g1⟩ := en_perm (en_app g ⟨hk, rfl, hv⟩) pm
    have pk' : k1.Perm (k :: ks) := pk.trans (List.perm_append_singleton _ _)
    have nd1 : k1.Nodup := pk'.nodup_iff.mpr (List.nodup_cons.mpr ⟨hnk, nd⟩)
    have hb1 : es1.size < scanBound := by
      rw [← Array.length_toList, ← Paired.length g1, pk'.length_eq, List.length_cons]
      exact room
    have led1 : w.params.followText "set-order" = true ∨ t1.led = true := hl.imp id fun z => by rw [l1]; exact z
    have fin : ∀ (b : Bool) h' k2, k2.Perm k1 → Heap.SameBut a s.heap h' → SetW knd h' a k2 → Q b { s with heap := h' } := fun b h' k2 p2 sb r => hQ b h' k2 sb r (.inr ⟨hnk, p2.trans pk'⟩)
    refine wpAny_bind (hgw _ _ _ ?_)
    split
    · refine wpAny_bind ?_
      rw [hashByValue_scannable 8 hv]
      refine wpAny_pure ?_
      refine setw_tail hgw ho hex hd nd1 g1 hb1 ?_ ?_ ?_ ?_
      · split <;> first | exact f1 | exact SetTable.fits_plain_off f1
      · split <;> exact r1
      · split <;> exact led1
      · intro h' k2 p2 sb r; dsimp only; exact wpAny_pure (fin _ h' k2 p2 sb r)
    · refine wpAny_bind (wpAny_pure ?_)
      simp only [↓reduceIte]
      refine setw_tail hgw ho hex hd nd1 g1 hb1 f1 r1 led1 ?_
      intro h' k2 p2 sb r; dsimp only; exact wpAny_pure (fin _ h' k2 p2 sb r)

/-- found.add(k) -/
theorem setw_add {k : κ} {v : Value} {Q : Value → Shared → Prop} (hk : knd.is k v = true) (hv : v.scannable = true) (R : SetW knd s.heap a ks) (room : ks.length + 1 < scanBound)
    (hQ : ∀ h' tk ks', Heap.SameBut a s.heap h' → SetW knd h' a ks' → Added ks k ks' → Q .none { s with heap := h', toks := tk }) :
    wpAny (model P w) A (call (.builtin "set.add") [.ref a, v]) Q E s := by
  have hT : s.TypeIs (.ref a) "set" := by
    obtain ⟨o, es, ep, t, ho, hex, _⟩ := R
    exact ⟨o, ho, hex.1⟩
  refine wpAny_call_entry F.slot_set_add hT F.entry_set_add ?_ (F.args_set_add_2 _ _)
  unfold Builtin.«set.add» Builtin.Frozenset.oneOther
  simp only [List.isEmpty_nil, bind_assoc]
  unfold Builtin.Frozenset.addrOf setAdd
  refine wpAny_bind (wpAny_pure ?_)
  try dsimp only
  refine wpAny_bind (wpAny_pure ?_)
  try dsimp only
  refine wpAny_bind ?_
  refine wpAny_holding ?_
  refine wpAny_bind (knd.pyHash hk ?_)
  refine setw_addHashed (s := { s with toks := s.toks + 1 }) hk hv R room fun b h' ks' sb r ad => ?_
  show wpAny _ _ (ret Value.none) _ _ _
  exact wpAny_pure ⟨_, rfl, hQ h' (s.toks + 1) ks' sb r ad⟩
theorem setw_fresh {h : Heap} : SetW knd (h.push { cls := .type "set", dict := none, data := .set #[] 0 (.fresh 0 0 (!w.params.followText "set-order")) }) h.objs.size [] :=
  ⟨_, #[], 0, _, Heap.get?_push_size _ rfl, ⟨rfl, rfl, rfl⟩, rfl, List.nodup_nil, .nil, (by decide), (by rfl), List.Pairwise.nil, by
    show _ ∨ (!w.params.followText "set-order") = true
    cases w.params.followText "set-order"
    · exact .inr rfl
    · exact .inl rfl⟩
end
end WW

set_option Elab.async false
set_option linter.all false
set_option maxRecDepth 100000
set_option maxHeartbeats 4000000
/-! Sets of texts as tracked things; sorted of one; {text for ..}; set(list of texts). -/
namespace WW
open PySem PySem.Spec PyProof.Rows L2

def leS (a b : Str) : Bool := decide (a.cps.toList ≤ b.cps.toList)
/-- the texts, ascending -/
def sortS (ks : List Str) : List Str := ks.mergeSort leS

/-- a set of texts -/
def SSO (P : Program) (w : World) (a : Addr) (ks : List Str) : HO := .ext fun h => SetW (PySem.strKind P w) h a ks
theorem sso_new {P : Program} {w : World} {H : Hp} {h : Heap} {a : Addr} {ks : List Str} (R : SetW (PySem.strKind P w) h a ks) : ObjOk P w H h a (SSO P w a ks) := by
  have ⟨o, _, _, _, ho, _⟩ := R
  exact ⟨R, ⟨o, ho⟩, fun h1 h2 p k => SetW.here p k⟩
section
variable {X : Cx}
theorem sso_get {pins : List (Addr × Obj)} {σ : L2.St} {H : Hp} {s : Shared} {a : Addr} {ks : List Str} (I : Inv X pins σ H s) (ha : H a = some (SSO X.prog X.w a ks)) : SetW (PySem.strKind X.prog X.w) s.heap a ks := (I.hok a _ ha).1

theorem setw_vals {P : Program} {w : World} {ks : List Str} {l : List (Int × Value)} (g : Paired (EnK (PySem.strKind P w)) ks l) : StrsAre (l.map (·.2)) ks := by
  induction g with
  | nil => exact .nil
  | @cons k e ks l q _ ih =>
    obtain ⟨t, et⟩ := Value.isStrOf_shape (x := k) (v := e.2) q.1
    show StrsAre (e.2 :: l.map (·.2)) (k :: ks)
    rw [et]
    exact .cons k t ih
theorem strs_perm {us vs : List Value} {ks : List Str} (h : StrsAre vs ks) (p : us.Perm vs) : ∃ ks', ks'.Perm ks ∧ StrsAre us ks' := by
  induction p generalizing ks with
  | nil => exact ⟨ks, List.Perm.refl _, h⟩
  | cons x _ ih =>
    cases h with
    | cons k t h2 =>
      obtain ⟨k2, p2, g2⟩ := ih h2
      exact ⟨k :: k2, p2.cons k, .cons k t g2⟩
  | swap x y l =>
    cases h with
    | cons k t h2 =>
      cases h2 with
      | cons k2 t2 h3 => exact ⟨_, List.Perm.swap _ _ _, .cons k2 t2 (.cons k t h3)⟩
  | trans _ _ ih1 ih2 =>
    obtain ⟨k2, p2, g2⟩ := ih2 h
    obtain ⟨k1, p1, g1⟩ := ih1 g2
    exact ⟨k1, p1.trans p2, g1⟩
theorem leS_trans (a b c : Str) (h1 : leS a b = true) (h2 : leS b c = true) : leS a c = true := by
  unfold leS at *
  exact decide_eq_true (Std.le_trans (of_decide_eq_true h1) (of_decide_eq_true h2))
theorem leS_total (a b : Str) : (leS a b || leS b a) = true := by
  unfold leS
  rcases Std.le_total (a := a.cps.toList) (b := b.cps.toList) with h | h
  · rw [decide_eq_true h, Bool.true_or]
  · rw [decide_eq_true h, Bool.or_true]
theorem str_ext {a b : Str} (h : a.cps.toList = b.cps.toList) : a = b := by
  cases a; cases b
  exact congrArg Str.mk (Array.ext' h)
theorem leS_anti (a b : Str) (h1 : leS a b = true) (h2 : leS b a = true) : a = b := by
  unfold leS at *
  exact str_ext (Std.le_antisymm (of_decide_eq_true h1) (of_decide_eq_true h2))
theorem sortS_sorted (ks : List Str) : (sortS ks).Pairwise (fun a b => leS a b = true) := List.pairwise_mergeSort leS_trans leS_total ks
theorem sortS_perm (ks : List Str) : (sortS ks).Perm ks := List.mergeSort_perm ks leS
/-- the ascending list depends on the members alone -/
theorem sortS_congr {ks ls : List Str} (p : ks.Perm ls) : sortS ks = sortS ls :=
  List.Perm.eq_of_pairwise (fun a b _ _ => leS_anti a b) (sortS_sorted ks) (sortS_sorted ls) (((sortS_perm ks).trans p).trans (sortS_perm ls).symm)
theorem sortS_mem {ks : List Str} {x : Str} : x ∈ sortS ks ↔ x ∈ ks := (sortS_perm ks).mem_iff
theorem sortS_len (ks : List Str) : (sortS ks).length = ks.length := (sortS_perm ks).length_eq

theorem strsAre_each : ∀ {vs : List Value} {ks : List Str}, StrsAre vs ks → PySem.W.EachIs (fun v (k : Str) => ∃ t, v = Value.str k t) vs ks
  | _, _, .nil => .nil
  | _, _, .cons k t h => .cons ⟨t, rfl⟩ (strsAre_each h)
theorem each_strsAre : ∀ {vs : List Value} {ks : List Str}, PySem.W.EachIs (fun v (k : Str) => ∃ t, v = Value.str k t) vs ks → StrsAre vs ks
  | _, _, .nil => .nil
  | _, _, .cons ⟨t, e⟩ h => by subst e; exact .cons _ t (each_strsAre h)
theorem le_str_eq : PySem.W.dataLe false PyData.str = leS := PySem.W.dataLe_str (fun k => k)

def rSortSS (P : Program) (w : World) : List V → Hp → VK → Prop := fun vs H Q => ∃ (a : Addr) (ks : List Str), vs = [V.ref a] ∧ H a = some (SSO P w a ks) ∧
  ∀ p, H p = none → Q (.ref p) (upd H p (.lst ((sortS ks).map V.str)))
theorem cr_sortSS (hc : X.calm = true) (hu : X.A.units + 64 < cLine) : CallR X (.builtin "sorted") (rSortSS X.prog X.w) := by
  intro pins s σ H vs us Q I r h
  obtain ⟨a, ks, rfl, ha, q⟩ := h
  rw [Vals.ref1 r]
  obtain ⟨o, es, ep, t, ho, hex, hd, nd, g, hb, hf, hr, hl⟩ := sso_get I ha
  refine Calls.call_function_entry kind_sorted plain_sorted entry_sorted (args_sorted1 _) ?_
  unfold Builtin.«sorted»
  refine wpAny_bind (m := checkCount "sorted" 1 1 _) (wpAny_pure ?_)
  refine wpAny_bind (collect_set (A := X.A.in1) (I.ok.hd hc) ⟨o, ho, hex.1, hd⟩ hf hb hr hl fun s1 out k1 z1 g1 o1 pm => ?_)
  obtain ⟨k2, pk, sa⟩ := strs_perm (setw_vals g) pm
  have hlen : out.length = ks.length := by rw [sa.length, pk.length_eq]
  have hk0 : ks.length = es.size := by rw [Paired.length g, Array.length_toList]
  have hz : out.length ≤ sizeLine := by rw [hlen, hk0]; exact fits_of_scanBound hb
  have I1 : Inv X pins σ H s1 := I.call' (ch := []) o1 (Un.kept k1) (I.hok.kept k1) (by rw [g1]; exact I.bare) (fun _ z => nomatch z)
  refine wpAny_bind (wpAny_newList ?_ hz)
  have hoL : (s1.heap.push (seqObj "list" out.toArray 0)).get? s1.heap.objs.size = some (seqObj "list" out.toArray 0) := Heap.get?_push_size _ rfl
  have ee := strsAre_each sa
  refine wpAny_bind (wpAny_holding (PySem.W.list_sort_data (enc := PyData.str) (s := { s1 with heap := s1.heap.push (seqObj "list" out.toArray 0) }) hoL ee (ee.mono fun v k ⟨t, e⟩ => ⟨[], by subst e; exact ⟨Reads.str k t, by simp⟩⟩) (PySem.W.AllAlike.of fun b b' => by simp [PySem.W.alike])
    (PySem.W.Sortable.others fun b => ⟨by simp, by simp⟩) (by rw [pk.length_eq, ← hlen]; exact hz) (fun b _ => by show X.A.units + 1 + 1 + 0 < cLine; omega) fun out2 h2 e2 => ?_))
  have en : k2.mergeSort (PySem.W.dataLe false PyData.str) = sortS ks := by
    rw [le_str_eq]
    exact sortS_congr pk
  rw [en] at e2
  obtain ⟨c, hc2⟩ := sortedHeap_at (vs := out) (out := out2.toArray) hoL
  have hold : ∀ b u, s1.heap.get? b = some u → (sortedHeap (s1.heap.push (seqObj "list" out.toArray 0)) s1.heap.objs.size out out2.toArray).get? b = some u := fun b u e => by
    have lt := Heap.lt_size e
    exact (sortedHeap_old (Nat.ne_of_lt lt) (by rw [Heap.size_push]; exact Nat.lt_succ_of_lt lt)).trans (Heap.get?_push_of_some _ e)
  have sa2 := each_strsAre e2
  refine wpAny_pure ⟨_, rfl, .ref s1.heap.objs.size, upd H s1.heap.objs.size (.lst ((sortS ks).map V.str)), I1.laid (t' := s1.toks) hold (Nat.le_refl _) ⟨?_, out2, c, vals_of_strs sa2, hc2⟩, rfl, q _ (I1.hok.fresh (Nat.le_refl _))⟩
  rw [List.length_map, sortS_len, ← hlen]
  exact hz
end
end WW

set_option Elab.async false
set_option linter.all false
set_option maxRecDepth 100000
set_option maxHeartbeats 4000000
/-! {e for x in ..}: whatever the set holds. -/
namespace WW
open PySem PySem.Spec PyProof.Rows L2

/-- what set.add does to the tracked set at D: y is put in, N is what then holds of the heap -/
abbrev AddT := V → Addr → Hp → (Hp → Prop) → Prop
/-- a set's making and filling, for any body -/
structure SetMk (P : Program) (w : World) (new : Addr → HO) (add : AddT) : Prop where
  laid : ∀ (H : Hp) (h : Heap), ObjOk P w H (h.push { cls := .type "set", dict := none, data := .set #[] 0 (.fresh 0 0 (!w.params.followText "set-order")) }) h.objs.size (new h.objs.size)
  put : ∀ (X : Cx), X.prog = P → X.w = w → ∀ (pins : List (Addr × Obj)) (σ : L2.St) (H : Hp) (s : Shared) (D : Addr) (y : V) (v : Value) (N : Hp → Prop) (Q : Value → Shared → Prop) (E : Value → Shared → Prop), Inv X pins σ H s → RelV y v → add y D H N →
    (∀ s' H', Inv X pins σ H' s' → N H' → Q .none s') → wpAny (model P w) X.A (call (.builtin "set.add") [.ref D, v]) Q E s

def tSet (new : Addr → HO) (add : AddT) (wi : TI) (g : TG) (tt : TT) (te : TE) (vs : List Nat) : TE := fun σ H Q => wi σ H fun J H1 => ∀ D, H1 D = none →
  ∃ W : Nat → Nat → Hp → Prop, (∃ m, W 0 m (upd H1 D (new D))) ∧ ∀ i m H2, W i m H2 → (J.stop i H2 ∧ Q (.ref D) H2) ∨
    (J.go i H2 ∧ ∃ Nx : Hp → Prop, (∀ H', Nx H' → ∃ m', m' < m ∧ W (i + 1) m' H') ∧ ∀ x H', J.yld i H2 x H' → g x (wipe σ vs) H' fun σ3 H3 => wipe σ3 vs = wipe σ vs ∧
      tt σ3 H3 fun b H4 => if b = true then te σ3 H4 fun y H5 => add y D H5 Nx else Nx H4)

section
variable {X : Cx}
theorem set_core {new : Addr → HO} {add : AddT} {pins : List (Addr × Obj)} {s : Shared} {σ : L2.St} {H : Hp} {Q : VK} {elt tg iter : Expr} {ifs : List Expr} {scope : Scope} {own : List (PySem.Str × Nat)} {pos pos' : Pos} {wi : TI} {g : TG} {tt : TT} {te : TE}
    {use : Option (Value → Sem Unit)} {Qf : Value → Shared → Prop} (M : SetMk X.prog X.w new add) (calm : X.calm = true) (nd : X.N.Nodup) (I : Inv X pins σ H s) (walk : PI X tg iter wi) (blk : BlkOk X.N X.env.scope scope own)
    (hg : ∀ (s : Shared) (H : Hp) (C : Addr) (cl : List (PySem.Str × Addr)) (fp : List Addr), PG (X.blk s H scope (compEnvC scope cl C X.env) fp) tg g)
    (ht : ∀ (s : Shared) (H : Hp) (C : Addr) (cl : List (PySem.Str × Addr)) (fp : List Addr), PTs (X.blk s H scope (compEnvC scope cl C X.env) fp) ifs tt)
    (he : ∀ (s : Shared) (H : Hp) (C : Addr) (cl : List (PySem.Str × Addr)) (fp : List Addr), PE (X.blk s H scope (compEnvC scope cl C X.env) fp) elt te)
    (plain : ∀ x, foldedSetIterable iter X.env x = pure x) (h : tSet new add wi g tt te (own.map (·.2)) σ H Q)
    (back : ∀ D C s' m H', Inv X pins σ H' s' → Q (.ref D) H' → s'.heap.Ns C m → FpOk X pins H' C → compPost (model X.prog X.w) X.A X.xe use Qf (.ref D) C (.ok .next) s') :
    wpAny (model X.prog X.w) X.A (comprehension (.SetComp elt [⟨tg, iter, ifs, 0⟩] scope pos) scope X.env pos' (newSet (.type "set")) false (eval iter X.env) use) Qf X.xe s := by
  have cellsThere : ∀ y ∈ scope.names, y.2 = .free → ∃ c, X.env.cells.lookup y.1 = some c := fun y my fy =>
    (blk.free y my fy).elim (fun k => I.ok.has _ (.inl k)) fun k => I.ok.has _ (.inr k)
  refine wpAny_comprehension_free (use := use) rfl plain (closure_ok cellsThere) blk.kind (fun y my ey => by rw [blk.uniq y my, ey]) (thn (walk.run pins s σ H _ I h) fun v1 s1 h1 => thn h1 fun v2 s2 h2 => ?_)
  obtain ⟨it, fp, tn, J, H2, rfl, I2, T, start2, free2, rest⟩ := h2
  refine PpSet.newSet_ok (newEnv_comp ?_)
  have fresh2 : H2 s2.heap.objs.size = none := I2.hok.fresh (Nat.le_refl _)
  obtain ⟨W, ⟨m0, w0⟩, turn⟩ := rest s2.heap.objs.size fresh2
  -- the state with the empty set
  have I3 : Inv X pins σ (upd H2 s2.heap.objs.size (new s2.heap.objs.size)) { s2 with heap := s2.heap.push { cls := .type "set", dict := none, data := .set #[] 0 (.fresh 0 0 (!X.w.params.followText "set-order")) } } :=
    I2.laid (t' := s2.toks) (fun _ _ e => Heap.get?_push_of_some _ e) (Nat.le_refl _) (M.laid _ _)
  have below : ∀ b ∈ fp, b < s2.heap.objs.size := fun b hb => let ⟨_, e, _⟩ := T.obj _ _ start2 b hb; Heap.lt_size e
  generalize hD : s2.heap.objs.size = D at w0 turn fresh2 I3 below ⊢
  generalize hs3 : ({ s2 with heap := s2.heap.push { cls := .type "set", dict := none, data := .set #[] 0 (.fresh 0 0 (!X.w.params.followText "set-order")) } } : Shared) = s3 at I3
  have grown : s3.heap = s2.heap.push { cls := .type "set", dict := none, data := .set #[] 0 (.fresh 0 0 (!X.w.params.followText "set-order")) } := by rw [← hs3]
  generalize hH3 : upd H2 D (new D) = H3 at I3 w0
  have free3 : ∀ b ∈ fp, FpOk X pins H3 b ∧ b < s3.heap.objs.size := fun b hb => by
    have lt := below b hb
    refine ⟨⟨?_, (free2 b hb).2⟩, by rw [grown, Heap.size_push, hD]; exact Nat.lt_succ_of_lt lt⟩
    rw [← hH3, upd_ne (Nat.ne_of_lt lt)]
    exact (free2 b hb).1
  have start3 : tn 0 s3.heap := T.keep _ _ _ start2 fun b _ o e => by rw [grown]; exact Heap.get?_push_of_some _ e
  have I4 := block_start I3 blk nd free3
  have ruleG := hg s3 H3 s3.heap.objs.size (cellsFrom (s3.heap.objs.size + 1) scope.names (cloFrom X.env.cells scope.names [])) fp
  have ruleT := ht s3 H3 s3.heap.objs.size (cellsFrom (s3.heap.objs.size + 1) scope.names (cloFrom X.env.cells scope.names [])) fp
  have ruleE := he s3 H3 s3.heap.objs.size (cellsFrom (s3.heap.objs.size + 1) scope.names (cloFrom X.env.cells scope.names [])) fp
  show codeAny _ _ (.compStart (.SetComp elt [⟨tg, iter, ifs, 0⟩] scope pos) 0 (.ref it) (.ref D) (compEnvC scope (cellsFrom (s3.heap.objs.size + 1) scope.names (cloFrom X.env.cells scope.names [])) s3.heap.objs.size X.env))
    (compPost (model X.prog X.w) X.A X.xe use Qf (.ref D) s3.heap.objs.size) { s3 with heap := pushCells (s3.heap.push { cls := .type "dict", data := .dict #[] }) scope.names }
  generalize hce : compEnvC scope (cellsFrom (s3.heap.objs.size + 1) scope.names (cloFrom X.env.cells scope.names [])) s3.heap.objs.size X.env = ce at I4 ruleG ruleT ruleE ⊢
  have frame : ce.locals = s3.heap.objs.size := by rw [← hce] <;> rfl
  generalize hs4 : ({ s3 with heap := pushCells (s3.heap.push { cls := .type "dict", data := .dict #[] }) scope.names } : Shared) = s4 at I4 ⊢
  have start4 : tn 0 s4.heap := T.keep _ _ _ start3 fun b _ o e => by rw [← hs4]; exact pushCells_keeps _ _ _ _ (Heap.get?_push_of_some _ e)
  have quiet : ∀ {σ' : L2.St} {H' : Hp} {s' : Shared}, Inv (X.blk s3 H3 scope ce fp) [] σ' H' s' → (∀ b ∈ fp, H' b = none) → ∀ b ∈ fp, FpOk (X.blk s3 H3 scope ce fp) [] H' b := fun {σ' H' s'} I' n b hb =>
    ⟨n b hb, (I'.ok.exf b hb).1, I'.ok.exfs b hb, .inl hb, (I'.ok.exf b hb).2, fun p hp => absurd (show p ∈ ([] : List (Addr × Obj)) ++ [] from hp) (by simp)⟩
  have loop : codeAny (model X.prog X.w) X.A (.compLoop (.SetComp elt [⟨tg, iter, ifs, 0⟩] scope pos) 0 (.ref it) (.ref D) ce) (compPost (model X.prog X.w) X.A X.xe use Qf (.ref D) s3.heap.objs.size) s4 := by
    refine PpSet.compLoopS_any (fun n s' => ∃ i H', Inv (X.blk s3 H3 scope ce fp) [] (wipe σ (own.map (·.2))) H' s' ∧ tn i s'.heap ∧ (∀ b ∈ fp, H' b = none) ∧ W i n H') ?_ m0 ⟨0, H3, I4, start4, fun b hb => (free3 b hb).1.1, w0⟩
    rintro n s5 ⟨i, H5, I5, at5, none5, w5⟩
    rcases turn i n H5 w5 with ⟨stop, fin⟩ | ⟨go, Nx, hNx, step⟩
    · refine thnF (T.done (X.blk s3 H3 scope ce fp) rfl rfl rfl calm i [] s5 _ H5 (fun _ _ => False) I5 (quiet I5 none5) at5 stop) fun r s6 ⟨er, I6⟩ => ?_
      subst er
      have I7 : Inv X pins σ H5 s6 := I3.call' (ch := fp) I6.os I6.base I6.hok I6.bare fun b hb => ⟨(free3 b hb).1.2.2.2.1, (free3 b hb).1.2.1, (free3 b hb).1.2.2.2.2.1, (free3 b hb).1.2.2.2.2.2⟩
      have nC : H5 s3.heap.objs.size = none := frame ▸ (I6.free : H5 ce.locals = none)
      obtain ⟨m, hn, _⟩ := I6.loc
      have hn' : s6.heap.Ns s3.heap.objs.size m := frame ▸ (hn : s6.heap.Ns ce.locals m)
      exact back D s3.heap.objs.size s6 m H5 I7 fin hn' (I3.fpOk (Nat.le_refl _) nC)
    · refine thnF (T.item (X.blk s3 H3 scope ce fp) rfl rfl rfl calm i [] s5 _ H5 (fun _ _ => False) I5 (quiet I5 none5) at5 go) fun r s6 ⟨u, er, h6⟩ => ?_
      subst er
      refine thnF h6 fun _ s7 ⟨x, H7, I7, r7, y7, at7, none7⟩ => ?_
      refine thnF (ruleG.run _ s7 _ H7 x u _ (I7.pinned (quiet I7 none7) (T.obj _ _ at7)) r7 (step x H7 y7)) fun _ s8 ⟨σ8, H8, I8, wiped, q8⟩ => ?_
      refine thnF (ruleT.run _ s8 σ8 H8 _ I8 q8) fun b s9 ⟨H9, I9, q9⟩ => ?_
      have next : ∀ {s' : Shared} {H' : Hp}, Inv (X.blk s3 H3 scope ce fp) ([] ++ pinsAt fp s7.heap) σ8 H' s' → Nx H' → ∃ m, m < n ∧ ∃ i H', Inv (X.blk s3 H3 scope ce fp) [] (wipe σ (own.map (·.2))) H' s' ∧ tn i s'.heap ∧ (∀ b ∈ fp, H' b = none) ∧ W i m H' := fun {s' H'} I' nx => by
        obtain ⟨m', less, w'⟩ := hNx H' nx
        have pinned : ∀ b ∈ fp, ∀ o, s7.heap.get? b = some o → s'.heap.get? b = some o ∧ H' b = none := fun b hb o e =>
          let z := I'.pin (b, o) (List.mem_append_right _ (List.mem_append_right _ (mem_pinsAt hb e)))
          ⟨z.1, z.2.1⟩
        have len8 : (wipe σ (own.map (·.2))).length = σ8.length := by rw [← wiped, wipe_length]
        refine ⟨m', less, i + 1, H', (I'.unpinned (pins := [])).weak len8 (fun j v e => ?_), T.keep _ _ _ at7 fun b hb o e => (pinned b hb o e).1, fun b hb => ?_, w'⟩
        · rw [← wiped] at e
          exact (wipe_some e).1
        · obtain ⟨o, e, _⟩ := T.obj _ _ at7 b hb
          exact (pinned b hb o e).2
      cases b with
      | false =>
        rw [if_neg Bool.false_ne_true] at q9 ⊢
        exact next I9 q9
      | true =>
        rw [if_pos rfl] at q9 ⊢
        refine thnF (ruleE.run _ s9 σ8 H9 _ I9 q9) fun z s10 ⟨yv, H10, I10, r10, put⟩ => ?_
        exact M.put (X.blk s3 H3 scope ce fp) rfl rfl _ σ8 H10 s10 D yv z Nx _ _ I10 r10 put fun s11 H11 I11 nx => next I11 nx
  exact PpSet.codeAny_compStart_set loop (T.self X.A 0 _ _ _ start4 loop)

theorem pe_set {new : Addr → HO} {add : AddT} {elt tg iter : Expr} {ifs : List Expr} {scope : Scope} {own : List (PySem.Str × Nat)} {pos : Pos} {wi : TI} {g : TG} {tt : TT} {te : TE} (M : SetMk X.prog X.w new add) (calm : X.calm = true) (nd : X.N.Nodup) (walk : PI X tg iter wi) (blk : BlkOk X.N X.env.scope scope own)
    (hg : ∀ (s : Shared) (H : Hp) (C : Addr) (cl : List (PySem.Str × Addr)) (fp : List Addr), PG (X.blk s H scope (compEnvC scope cl C X.env) fp) tg g)
    (ht : ∀ (s : Shared) (H : Hp) (C : Addr) (cl : List (PySem.Str × Addr)) (fp : List Addr), PTs (X.blk s H scope (compEnvC scope cl C X.env) fp) ifs tt)
    (he : ∀ (s : Shared) (H : Hp) (C : Addr) (cl : List (PySem.Str × Addr)) (fp : List Addr), PE (X.blk s H scope (compEnvC scope cl C X.env) fp) elt te)
    (plain : ∀ x, foldedSetIterable iter X.env x = pure x := by intro _; rfl) :
    PE X (.SetComp elt [⟨tg, iter, ifs, 0⟩] scope pos) (tSet new add wi g tt te (own.map (·.2))) := by
  refine ⟨fun pins s σ H Q I h => ?_⟩
  rw [PpSet.eval_SetComp]
  refine set_core M calm nd I walk blk hg ht he plain h fun D C s' m H' I' q hn free => ⟨m, hn, fun h'' sb => ?_⟩
  obtain ⟨f0, f1, f2, f3, f4, f5⟩ := free
  exact ⟨.ref D, H', I'.turned (t' := s'.toks) (fun b o hb e => (sb.2 b hb).trans e) f0 f1 f3 f4 f5, rfl, q⟩
end

/-- texts put in: whatever order the table takes -/
def addS (P : Program) (w : World) : AddT := fun y D H N => ∃ (c : Str) (ks : List Str), y = .str c ∧ H D = some (SSO P w D ks) ∧ ks.length + 1 < scanBound ∧ ∀ ks', Added ks c ks' → N (upd H D (SSO P w D ks'))
theorem mkS (P : Program) (w : World) : SetMk P w (fun D => SSO P w D []) (addS P w) where
  laid := fun H h => sso_new setw_fresh
  put := fun X hP hw pins σ H s D y v N Q E I r ⟨c, ks, ey, hD, room, k⟩ fin => by
    subst hP hw ey
    obtain ⟨t, ev⟩ := r
    subst ev
    refine setw_add (knd := PySem.strKind X.prog X.w) (k := c) (by show Value.isStrOf c (.str c t) = true; simp [Value.isStrOf]) rfl (sso_get I hD) room fun h' tk ks' sb new ad => ?_
    have there : ∃ u, h'.get? D = some u := let ⟨o, _, _, _, ho, _⟩ := new; ⟨o, ho⟩
    exact fin _ _ (I.write (e := D) (t' := tk) (by rw [hD]; trivial) (.inl rfl) (fun b u hb hu => (sb.2 b hb).trans hu) there (sso_new new)) (k ks' ad)
end WW

set_option Elab.async false
set_option linter.all false
set_option maxRecDepth 100000
set_option maxHeartbeats 4000000
/-! x == y and x != y by a class's own __eq__, whatever it answers. -/
namespace WW
open PySem PySem.Spec PyProof.Rows L2

theorem cmpOf {P : Value → Shared → Prop} {z : V} {v : Value} {s' : Shared} (r : RelV z v) (h : P v s') : PySem.W.CmpBack P v s' := by
  cases z <;> (try obtain ⟨t, e⟩ := r) <;> first | exact h | (subst e; exact h) | (cases r; exact h)

/-- x op y of two instances, answered by the def sp -/
def rOwnEq (K : PySem.W.Frag) (C : Addr) (sp : Sp) (E : XK) : R2 := fun x y H Q => ∃ a dx fs b C' dy gs, x = .ref a ∧ y = .ref b ∧ H a = some (.ins C dx fs) ∧ H b = some (.ins C' dy gs) ∧ PySem.W.notFirst K C (.ref C') = true ∧ sp [x, y] H Q E
def rOwnNe (K : PySem.W.Frag) (C : Addr) (sp : Sp) (E : XK) : R2 := fun x y H Q => ∃ a dx fs b C' dy gs, x = .ref a ∧ y = .ref b ∧ H a = some (.ins C dx fs) ∧ H b = some (.ins C' dy gs) ∧ PySem.W.notFirst K C (.ref C') = true ∧
  sp [x, y] H (fun v H' => ∃ k, v = .bl k ∧ Q (.bl (!k)) H') E

section
variable {X : Cx} {CX : CXT} {C f : Addr} {fd : FuncData} {ps : List Str} {sp : Sp} {E : XK} {n : Nat}
theorem op_ownEq (hs : PySem.W.findIn X.K (.ref C) "__eq__" = some (some (.ref f))) (hf : PySem.W.isFn X.K (.ref f) = true) (F : FnOk X.prog X.w X.K X.mg X.base CX n f fd ps sp) (hr : Room n X.A) (hb : Binds X.K fd ps []) (hx : Passes CX X E) :
    OpR X (compareOp .Eq) (rOwnEq X.K C sp E) := by
  intro pins s σ H x y v u Q I rx ry h
  obtain ⟨a, dx, fs, b, C', dy, gs, rfl, rfl, ha, hb', hn, q⟩ := h
  cases rx
  cases ry
  obtain ⟨mA, J, _⟩ := ins_get I.hok ha
  obtain ⟨mB, J', _⟩ := ins_get I.hok hb'
  obtain ⟨od, J, _⟩ := J.look
  obtain ⟨od', J', _⟩ := J'.look
  obtain ⟨m, hF⟩ := I.fr
  show wpAny (model X.prog X.w) X.A (richCompare .Eq (.ref a) (.ref b)) (EP X pins σ Q) X.xe s
  refine PySem.W.cmp_K (op := .Eq) (tb := .ref C') hr.units0 hF I.ok.mod.kin J J'.type hn hs hf ?_
  refine wpAny_mono (run_fn (us := [.ref a, .ref b]) (vs := [.ref a, .ref b]) F hr hb .nil hx I (.cons rfl (.cons rfl .nil)) q) (fun w s' z => ?_) fun _ _ e => e
  obtain ⟨z', H', I', rz, qz⟩ := z
  exact cmpOf rz ⟨z', H', I', rz, qz⟩

/-- the class's __ne__ is object's -/
theorem ne_bound {M : Model} {A : Around} {E' : Value → Shared → Prop} {s : Shared} {K : PySem.W.Frag} {x : Addr} {ox : Obj} {od : Option Obj} {args : List Value} {Q : Option Value → Shared → Prop} (Xk : K.In s.heap) (J : PySem.W.InstAt s.heap x ox C od)
    (hne : PySem.W.findIn K (.ref C) "__ne__" = some (some (.builtin "object.__ne__"))) (h : wpAny M A (call (.builtin "object.__ne__") (.ref x :: args)) (fun v => Q (some v)) E' s) : wpAny M A (callSpecialIfBound? (.ref x) "__ne__" args) Q E' s := by
  simp only [callSpecialIfBound?, bindSpecialIfBound?]
  refine wpAny_holding (wpAny_bind (wpAny_bind (wpAny_bind (J.type.here ((PySem.W.looks_findIn Xk hne).here ?_)))))
  refine wpAny_bind (wpAny_askSetting (wpAny_ite ?_))
  have last : wpAny M A (call (.builtin "object.__ne__") ([.ref x] ++ args) >>= fun v => pure (some v)) Q E' s := wpAny_bind (wpAny_mono h (fun v s' q => wpAny_pure q) fun _ _ q => q)
  split
  · exact wpAny_bind (wpAny_of_eq (PySem.F.cmp_object.ne.bind _) (wpAny_pure (by exact last)))
  · exact wpAny_tryCatch (wpAny_bind (wpAny_of_eq (PySem.F.cmp_object.ne.bind _) (wpAny_pure (by exact last))))

theorem op_ownNe (hs : PySem.W.findIn X.K (.ref C) "__eq__" = some (some (.ref f))) (hne : PySem.W.findIn X.K (.ref C) "__ne__" = some (some (.builtin "object.__ne__"))) (hm : PySem.W.mroIn X.K C (.type "object") = some true) (hf : PySem.W.isFn X.K (.ref f) = true)
    (F : FnOk X.prog X.w X.K X.mg X.base CX n f fd ps sp) (hr : Room (n + 1) X.A) (hb : Binds X.K fd ps []) (hx : Passes CX X E) : OpR X (compareOp .NotEq) (rOwnNe X.K C sp E) := by
  intro pins s σ H x y v u Q I rx ry h
  obtain ⟨a, dx, fs, b, C', dy, gs, rfl, rfl, ha, hb', hn, q⟩ := h
  cases rx
  cases ry
  obtain ⟨mA, J, _⟩ := ins_get I.hok ha
  obtain ⟨mB, J', _⟩ := ins_get I.hok hb'
  obtain ⟨od, J, _⟩ := J.look
  obtain ⟨od', J', _⟩ := J'.look
  have hu : X.A.units + 64 < cLine := hr.units
  -- the def, a level down
  have deep : wpAny (model X.prog X.w) X.A.in1 (call (.ref f) [.ref a, .ref b]) (fun w s' => ∃ k, w = .bool k ∧ EP X pins σ Q (.bool (!k)) s') X.xe s := by
    have hl := F.len _ _ _ _ q
    have bd : BindsTo s fd ⟨[.ref a, .ref b], []⟩ (ps.zip [.ref a, .ref b]) := by
      have z := hb s [.ref a, .ref b] I.kIn (by simpa using hl)
      simpa using z
    refine wpAny_call (codeAny_mono (F.run X.A.in1 X.stack s H ⟨[.ref a, .ref b], []⟩ [.ref a, .ref b] [.ref a, .ref b] _ E hr.in1 I.env0.in1 bd (.cons rfl (.cons rfl .nil)) q) fun r s' hq => ?_)
    cases r with
    | error e => exact hx pins σ H s e s' I hq
    | ok fl =>
      cases fl with
      | ret w =>
        obtain ⟨z, H', I', rz, k, ez, qz⟩ := I.after hq
        subst ez
        cases rz
        exact ⟨k, rfl, .bl (!k), H', I', rfl, qz⟩
      | next => exact False.elim hq
      | brk => exact False.elim hq
      | cont => exact False.elim hq
  have entry : wpAny (model X.prog X.w) X.A.in1 (Builtin.«object.__ne__» ⟨[.ref a, .ref b], []⟩) (fun fin s' => match fin with | .done g => (match g with | .ret w => (∃ k, w = .bool k ∧ EP X pins σ Q (.bool k) s') | _ => False) | .again _ => False) X.xe s := by
    unfold Builtin.«object.__ne__»
    refine wpAny_bind (wpAny_pure ?_)
    refine wpAny_bind (wpAny_cRoomFor (by show X.A.units + 1 < cLine; omega) ?_)
    refine wpAny_bind (PySem.W.ifBound_K I.kIn J hs hf (wpAny_mono deep (fun w s' z => ?_) fun _ _ e => e))
    obtain ⟨k, rfl, hq⟩ := z
    exact wpAny_bind (wpAny_truthy_bool (wpAny_pure ⟨_, rfl, hq⟩))
  have tried : wpAny (model X.prog X.w) X.A (tryCompare (.ref a) "__ne__" (.ref b)) (fun r s' => ∃ w, r = some w ∧ EP X pins σ Q w s') X.xe s := by
    unfold tryCompare
    refine wpAny_bind (ne_bound I.kIn J hne (wpAny_call (codeAny_call_builtin PySem.F.cmp_object.ne.plain PySem.F.cmpEntry_ne (PySem.W.check_slot PySem.F.cmpKind_ne PySem.F.cmpSplit_ne (J.type.andThen (PySem.W.looks_mroIn I.kIn hm)) (PySem.F.cmpArgs_ne _ _)
      (wpAny_mono entry (fun fin s' z => ?_) fun _ _ e => e)))))
    cases fin with
    | again _ => exact z.elim
    | done g =>
      cases g with
      | ret w =>
        obtain ⟨k, rfl, hq⟩ := z
        exact wpAny_pure ⟨_, rfl, hq⟩
      | next => exact z.elim
      | brk => exact z.elim
      | cont => exact z.elim
  show wpAny (model X.prog X.w) X.A (richCompare .NotEq (.ref a) (.ref b)) (EP X pins σ Q) X.xe s
  unfold richCompare
  simp only [oneThing_ref]
  refine wpAny_holding (wpAny_bind (wpAny_cRoomFor hr.units0 ?_))
  rw [PySem.cmpInfo_NotEq]
  dsimp only
  refine wpAny_bind (J.type.here (wpAny_bind (J'.type.here ?_)))
  split
  · rename_i ne
    have e : PySem.W.subIn X.K (.ref C') (.ref C) = some false := by
      rcases Bool.or_eq_true_iff.mp hn with e | e
      · rw [beq_iff_eq.mp e] at ne; simp at ne
      · exact beq_iff_eq.mp e
    refine wpAny_bind ((PySem.W.looks_subIn I.kIn e).here ?_)
    simp only [Bool.false_eq_true, if_false]
    refine wpAny_bind (wpAny_mono tried (fun r s' z => ?_) fun _ _ e => e)
    obtain ⟨w, rfl, hq⟩ := z
    exact wpAny_pure hq
  · refine wpAny_bind (wpAny_pure ?_)
    simp only [Bool.false_eq_true, if_false]
    refine wpAny_bind (wpAny_mono tried (fun r s' z => ?_) fun _ _ e => e)
    obtain ⟨w, rfl, hq⟩ := z
    exact wpAny_pure hq
end
end WW

set_option Elab.async false
set_option linter.all false
set_option maxRecDepth 100000
set_option maxHeartbeats 4000000
/-! A list or a tuple alike: either reading; enumerate, in and sorted of tuples. -/
namespace WW
open PySem PySem.Spec PyProof.Rows L2

/-! ### either reading -/
theorem pe_or {X : Cx} {e : Expr} {t u : TE} (a : PE X e t) (b : PE X e u) : PE X e (fun σ H Q => t σ H Q ∨ u σ H Q) :=
  ⟨fun pins s σ H Q I h => h.elim (a.run pins s σ H Q I) (b.run pins s σ H Q I)⟩
def iOr (a b : TI) : TI := fun σ H R => a σ H R ∨ b σ H R
theorem pi_or {X : Cx} {tg e : Expr} {t u : TI} (a : PI X tg e t) (b : PI X tg e u) : PI X tg e (iOr t u) :=
  ⟨fun pins s σ H Q I h => h.elim (a.run pins s σ H Q I) (b.run pins s σ H Q I)⟩
def rOr3 (a b : List V → Hp → VK → Prop) : List V → Hp → VK → Prop := fun vs H Q => a vs H Q ∨ b vs H Q
theorem cr_or {X : Cx} {f : Value} {r u : List V → Hp → VK → Prop} (a : CallR X f r) (b : CallR X f u) : CallR X f (rOr3 r u) :=
  fun pins s σ H vs us Q I rv h => h.elim (a pins s σ H vs us Q I rv) (b pins s σ H vs us Q I rv)

/-! ### x in a tuple, of data of any kind -/
section
variable {X : Cx}
def rInDT (K : PySem.W.Frag) : R2 := fun x y H Q => ∃ d ds, Dp K H x d ∧ Dp K H y (.tuple ds) ∧ SeqAt.shaped d = true ∧ SeqAt.shaped (.tuple ds) = true ∧ Q (.bl (ds.any fun z => PyData.eqv z d)) H
theorem op_inDT (hu : X.A.units + 65 < cLine) : OpR X (compareOp .In) (rInDT X.K) := by
  intro pins s σ H x y v u Q I rx ry h
  obtain ⟨d, ds, hd, he, sd, se, q⟩ := h
  obtain ⟨as, r1⟩ := Dp.reads I d x v hd rx
  obtain ⟨bs, r2⟩ := Dp.reads I (.tuple ds) y u he ry
  exact SeqAt.in_tuple_reads r2 r1 (SeqAt.canLay_of_shaped se) (SeqAt.canLay_of_shaped sd) (room_in_shaped sd hu) ⟨.bl _, H, I, rfl, q⟩
end

/-! ### enumerate(tuple) -/
section
variable {prog : Program} {w : World} {A : Around} {E : Value → Shared → Prop} {s : Shared}
set_option maxHeartbeats 1000000 in
theorem meets_enum1 {v : Value} {o : Obj} {H : Heap → Prop} (B : Begins v o H) :
    Meets (Builtin.«enumerate.__new__» ⟨[.type "enumerate", v], []⟩) (fun _ R s => H s.heap ∧
      R (.ok (.ret (.ref (s.heap.push o).objs.size))) { s with heap := (s.heap.push o).push { cls := .type "enumerate", data := .fields #[.none, .bool false, .ref s.heap.objs.size, rawInt 0, .none, .none] } }) :=
  .of_wp fun prog w A R s h => by
    obtain ⟨hp, g, d, tk, os⟩ := s; obtain ⟨h1, h⟩ := h
    have hsub := sub_enumerate
    have q1 : ∀ {A' : Around} {E : Value → Shared → Prop} {Q : Value → Shared → Prop}, Q (.ref hp.objs.size) ⟨hp.push o, g, d, tk, os⟩ → wpAny (model prog w) A' (pyIter v) Q E ⟨hp, g, d, tk, os⟩ :=
      fun q => B.iter prog w _ _ ⟨hp, g, d, tk, os⟩ _ h1 q
    wp_walk using q1
    refine wpAny_stack_any fun st => wpAny_pure ?_
    split
    · rename_i c _ _ _ _ _
      cases (c == Value.type "enumerate")
      · wp_walk using q1
        exact ⟨_, rfl, h⟩
      · wp_walk using q1
        exact ⟨_, rfl, h⟩
    · wp_walk using q1
      exact ⟨_, rfl, h⟩
theorem enum1_begins {v : Value} {o : Obj} {H : Heap → Prop} {Q : Value → Shared → Prop} (B : Begins v o H) (h1 : H s.heap)
    (h : ∀ h', IsEnum h' (s.heap.objs.size + 1) s.heap.objs.size 0 .none → h'.get? s.heap.objs.size = some o → h'.objs.size = s.heap.objs.size + 2 →
      (∀ b o, s.heap.get? b = some o → h'.get? b = some o) → Q (.ref (s.heap.objs.size + 1)) { s with heap := h' }) :
    wpAny (model prog w) A (call (.type "enumerate") [v]) Q E s := by
  refine callType_new F.called_enumerate (by decide) (F.typeCall_enumerate_1 _) (F.newCall_enumerate_1 _) (fun obj => F.args_object_init_2 obj _) F.entry_enumerate_new
    (meets_enum1 B) ⟨h1, ?_⟩
  have hz : (s.heap.push o).objs.size = s.heap.objs.size + 1 := Heap.size_push ..
  show _ ∧ _
  rw [hz]
  have he : IsEnum ((s.heap.push o).push { cls := .type "enumerate", data := .fields #[.none, .bool false, .ref s.heap.objs.size, rawInt 0, .none, .none] }) (s.heap.objs.size + 1) s.heap.objs.size 0 .none := by
    have := Heap.get?_push_size (s.heap.push o) (o := { cls := .type "enumerate", data := .fields #[.none, .bool false, .ref s.heap.objs.size, rawInt 0, .none, .none] }) rfl
    rw [hz] at this; exact this
  refine ⟨⟨_, he, rfl⟩, h _ he (Heap.get?_push_of_some _ (Heap.get?_push_size _ B.free)) (by rw [Heap.size_push, hz]) fun b o x => Heap.get?_push_of_some _ (Heap.get?_push_of_some _ x)⟩
end

/-- the tuple at a, each item in a new pair -/
def IteT (K : PySem.W.Frag) (a : Addr) : It :=
  ⟨fun i H => ∃ (xs : List V) (x : V), SqT K H a xs ∧ xs[i]? = some x, fun i H v H' => ∃ T x, v = .ref T ∧ H T = none ∧ H' = upd H T (.tup [.int (i : Nat), x]) ∧ ∀ xs, SqT K H a xs → xs[i]? = some x, fun i H => ∃ xs : List V, SqT K H a xs ∧ xs.length = i⟩
theorem turn_enumT {P : Program} {w : World} {K : PySem.W.Frag} {elts : List Expr} {kk : Nat} {tpos : Pos} (a e it : Addr) :
    Turn P w K (.Tuple elts kk tpos) (IteT K a) [e, it] e (fun i h => (∃ old, IsEnum h e it ((i : Nat) : Int) old) ∧ h.IsTupleIter it a i ∧ e ≠ it) where
  mem := by simp
  obj := fun i h st b hb => by
    obtain ⟨⟨old, he⟩, ⟨o, ho, hc, hd⟩, _⟩ := st
    have e' : b = e ∨ b = it := by simpa using hb
    rcases e' with z | z
    · rw [z]; exact ⟨_, he, fun v q => nomatch q⟩
    · rw [z]; exact ⟨o, ho, fun v q => by rw [hd] at q; cases q⟩
  keep := fun i h h' st k => let ⟨⟨old, he⟩, hi, hne⟩ := st; ⟨⟨old, k e (by simp) _ he⟩, hi.at fun o q => k it (by simp) o q, hne⟩
  item := by
    intro X hP hw hK hc i pins s σ H E I hf st hg
    subst hP hw hK
    obtain ⟨⟨old, he⟩, hit, hne⟩ := st
    obtain ⟨xs, x, hq, hx⟩ := hg
    obtain ⟨its, rv, p, hz⟩ := I.tuple hq
    have p' : s.heap.IsTuple a its.toArray := p
    obtain ⟨u, hu, ru⟩ := rv.get hx
    have hel : e < s.heap.objs.size := Heap.lt_size he
    have hil : it < s.heap.objs.size := by obtain ⟨_, q, _⟩ := hit; exact Heap.lt_size q
    have hai : a ≠ it := fun z => by
      obtain ⟨o, ho, hc1, _⟩ := hit
      obtain ⟨o', ho', hc2, _⟩ := p'
      rw [z, ho] at ho'
      cases ho'
      rw [hc1] at hc2
      injection hc2 with hc2
      exact absurd hc2 (by decide)
    have hae : e ∉ [it, a] := fun z => by
      rcases List.mem_cons.mp z with z | z
      · exact hne z
      · have z := List.mem_singleton.mp z
        obtain ⟨o', ho', hc2, _⟩ := p'
        rw [← z, he] at ho'
        cases ho'
        injection hc2 with hc2
        exact absurd hc2 (by decide)
    have hil2 : i < its.toArray.size := by
      have := (List.getElem?_eq_some_iff.mp hu).1
      simpa using this
    refine wpAny_pyNext_enum_itemC (fp := [it, a]) (c := (i : Int)) (Draws.tuple (A := X.A.in1) (I.ok.hd hc) it a hai its.toArray) he ⟨hit, p'⟩ hil2 hne hae fun y h' tk hy ho hit' hT hsz hk => ?_
    have ey : y = u := by
      have e1 : its[i]? = some y := by simpa using hy
      rw [hu] at e1
      exact (Option.some.inj e1).symm
    subst ey
    refine ⟨_, rfl, wpAny_letOwnedTupleGo_enum (s := { s with heap := h', toks := tk + 1 }) ho fun h'' he' sb => ?_⟩
    have hT2 : h''.get? s.heap.objs.size = some { cls := .type "tuple", data := .seq #[.int i tk, y] } := (sb.2 _ (Nat.ne_of_gt hel)).trans hT
    have new : ObjOk X.prog X.w (upd H s.heap.objs.size (.tup [.int (i : Nat), x])) h'' s.heap.objs.size (.tup [.int (i : Nat), x]) :=
      ⟨by show 2 ≤ sizeLine; decide, [.int i tk, y], .cons ⟨_, rfl⟩ (.cons ru .nil), ⟨_, hT2, rfl, _, rfl⟩⟩
    have I1 : Inv X pins σ (upd H s.heap.objs.size (.tup [.int (i : Nat), x])) { s with heap := h'', toks := tk + 1 } :=
      I.turnedNew (ch := [e, it]) (fun b ob hb q => (sb.2 b (fun z => hb (by simp [z]))).trans (hk b ob (fun z => hb (by simp [z])) (fun z => hb (by simp [z])) q)) hf (Nat.le_refl _) new
    refine ⟨.ref s.heap.objs.size, _, I1, rfl, ⟨_, x, rfl, I.hok.fresh (Nat.le_refl _), rfl, fun ys hy => by rw [I.tuple_inj hy hq]; exact hx⟩, ⟨⟨y, ?_⟩, hit'.1.at fun o q => (sb.2 it (Ne.symm hne)).trans q, hne⟩, fun b hb => ?_⟩
    · have e1 : ((i + 1 : Nat) : Int) = (i : Int) + 1 := by omega
      rw [e1]; exact he'
    · have hb' : b < s.heap.objs.size := by
        have e' : b = e ∨ b = it := by simpa using hb
        rcases e' with z | z
        · rw [z]; exact hel
        · rw [z]; exact hil
      rw [upd_ne (Nat.ne_of_lt hb')]
      exact (hf b hb).1
  done := by
    intro X hP hw hK hc i pins s σ H E I hf st hg
    subst hP hw hK
    obtain ⟨⟨old, he⟩, hit, hne⟩ := st
    obtain ⟨xs, hq, hx⟩ := hg
    obtain ⟨its, rv, p, hz⟩ := I.tuple hq
    have p' : s.heap.IsTuple a its.toArray := p
    obtain ⟨f0, f1, f2, f3, f4, f5⟩ := hf it (by simp)
    have hl := rv.length
    have hai : a ≠ it := fun z => by
      obtain ⟨o, ho, hc1, _⟩ := hit
      obtain ⟨o', ho', hc2, _⟩ := p'
      rw [z, ho] at ho'
      cases ho'
      rw [hc1] at hc2
      injection hc2 with hc2
      exact absurd hc2 (by decide)
    have ei : i = its.toArray.size := by simp; omega
    subst ei
    exact wpAny_pyNext_enum_endD (fp := [it, a]) (Draws.tuple (A := X.A.in1) (I.ok.hd hc) it a hai its.toArray) he ⟨hit, p'⟩ fun h' eb => ⟨rfl, I.turned (t' := s.toks) (fun b o hb q => eb b o hb q) f0 f1 f3 f4 f5⟩
  self := fun A i s Q E st h => let ⟨⟨_, he⟩, _⟩ := st; wpAny_pyIter_enum he h
def iEnumT (K : PySem.W.Frag) (ta : TA) : TI := fun σ H R => ta σ H fun vs H1 => ∃ a xs, vs = [.ref a] ∧ SqT K H1 a xs ∧ R (IteT K a) H1
theorem pi_enumT {X : Cx} {e : Expr} {ta : TA} {p pos tpos : Pos} {elts : List Expr} {kk : Nat} (hg : Gl X "enumerate") (hm : X.mg "enumerate" = none) (ha : PA X [e] ta) (hs : starEach [e] X.env = [(false, eval e X.env)] := by rfl) :
    PI X (.Tuple elts kk tpos) (.Call (.Name "enumerate" p) [e] [] pos) (iEnumT X.K ta) := by
  refine ⟨fun pins s σ H R I h => ?_⟩
  refine Call_ (ld_blt I hg hm boot_enumerate (PyProof.Rows.callWith_type1 (thn (ha.run pos pins s σ H _ I h) fun us s1 ⟨vs, H1, I1, r1, q1⟩ => ?_) hs rfl))
  obtain ⟨a, xs, ex, hq, q⟩ := q1
  subst ex
  cases r1 with
  | cons r rr =>
    cases rr
    cases r
    obtain ⟨its, rv, p', hz⟩ := I1.tuple hq
    refine enum1_begins (begins_tuple a its.toArray) p' fun h' he hit hsz hk => wpAny_pyIter_enum he ?_
    have I2 : Inv X pins σ H1 { s1 with heap := h' } := I1.kept (t' := s1.toks) hk
    refine ⟨s1.heap.objs.size + 1, [s1.heap.objs.size + 1, s1.heap.objs.size], _, _, H1, rfl, I2, turn_enumT a (s1.heap.objs.size + 1) s1.heap.objs.size, ⟨⟨.none, he⟩, ⟨_, hit, rfl, rfl⟩, Nat.succ_ne_self _⟩, fun b hb => ?_, q⟩
    have e' : b = s1.heap.objs.size + 1 ∨ b = s1.heap.objs.size := by simpa using hb
    have hle : s1.heap.objs.size ≤ b := by
      rcases e' with z | z
      · rw [z]; exact Nat.le_add_right _ _
      · rw [z]; exact Nat.le_refl _
    exact I1.fpOk hle (I1.hok.fresh hle)

/-! ### sorted(tuple) -/
theorem reads_lt {h : Heap} {v : Value} {d : PyData} {as : List Addr} (r : Reads h v d as) : ∀ a ∈ as, a < h.objs.size := by
  refine Reads.rec (motive_1 := fun v d as _ => ∀ a ∈ as, a < h.objs.size) (motive_2 := fun vs ds as _ => ∀ a ∈ as, a < h.objs.size) ?_ ?_ ?_ ?_ ?_ ?_ ?_ ?_ ?_ r
  · intro a ha; cases ha
  · intro _ a ha; cases ha
  · intro _ _ a ha; cases ha
  · intro _ _ a ha; cases ha
  · intro b o vs n xs as h1 h2 h3 h4 ih a ha
    rcases List.mem_cons.mp ha with e | ha
    · rw [e]; exact Heap.lt_size h1
    · exact ih a ha
  · intro b o vs n xs as h1 h2 h3 h4 ih a ha
    exact ih a ha
  · intro b o es n kvs as bs h1 h2 h3 h4 h5 ih1 ih2 a ha
    rcases List.mem_append.mp ha with ha | ha
    · rcases List.mem_cons.mp ha with e | ha
      · rw [e]; exact Heap.lt_size h1
      · exact ih1 a ha
    · exact ih2 a ha
  · intro a ha; cases ha
  · intro v vs d ds as bs h1 h2 ih1 ih2 a ha
    rcases List.mem_append.mp ha with ha | ha
    · exact ih1 a ha
    · exact ih2 a ha

def rSortDT {β : Type} (K : PySem.W.Frag) (enc : β → PyData) : List V → Hp → VK → Prop := fun vs H Q => ∃ (a : Addr) (xs : List V) (bs : List β) (F : V → β → Prop), vs = [V.ref a] ∧ SqT K H a xs ∧ Paired (fun v b => F v b ∧ DpE K H enc v b) xs bs ∧
  (∀ b b', PySem.W.alike (enc b) (enc b') = true) ∧ PySem.W.Sortable (bs.map enc) ∧ (∀ b, (enc b).depth ≤ 32) ∧
  ∀ (ys : List V) (p : Addr), Paired F ys (bs.mergeSort (PySem.W.dataLe false enc)) → H p = none → Q (.ref p) (upd H p (.lst ys))
theorem cr_sortDT {X : Cx} {β : Type} (enc : β → PyData) (hc : X.calm = true) (hu : X.A.units + 64 < cLine) : CallR X (.builtin "sorted") (rSortDT X.K enc) := by
  intro pins s σ H vs us Q I r h
  obtain ⟨a, xs, bs, F, rfl, hs, hp, hal, hso, hdp, q⟩ := h
  rw [Vals.ref1 r]
  obtain ⟨its, rv, hl, hz⟩ := I.tuple hs
  have hl' : s.heap.IsTuple a its.toArray := hl
  obtain ⟨o, ho, hcl, n, hd⟩ := hl'
  have hxl := rv.length
  refine Calls.call_function_entry kind_sorted plain_sorted entry_sorted (args_sorted1 _) ?_
  unfold Builtin.«sorted»
  refine wpAny_bind (m := checkCount "sorted" 1 1 _) (wpAny_pure ?_)
  refine wpAny_bind (wpAny_collect_seq a (.inr rfl) ho hcl hd (fun h1 k1 => ?_) (by simp; omega))
  have I1 : Inv X pins σ H { s with heap := h1 } := I.kept (t' := s.toks) k1
  have hol : its.toArray.toList = its := by simp
  rw [hol]
  have hz' : its.length ≤ sizeLine := by omega
  refine wpAny_bind (wpAny_newList ?_ hz')
  have hoL : (h1.push (seqObj "list" its.toArray 0)).get? h1.objs.size = some (seqObj "list" its.toArray 0) := Heap.get?_push_size _ rfl
  have hlen : bs.length = xs.length := (Paired.length hp).symm
  have e1 := each_of rv hp
  have I2 : Inv X pins σ H { s with heap := h1.push (seqObj "list" its.toArray 0) } := I1.kept (t' := s.toks) fun b u e => Heap.get?_push_of_some _ e
  have er : PySem.W.EachIs (fun v b => ∃ as, Reads (h1.push (seqObj "list" its.toArray 0)) v (enc b) as ∧ h1.objs.size ∉ as) its bs := (each_reads I1 e1).mono fun v b ⟨as, r⟩ =>
    ⟨as, PyProof.Rows.Reads.keeps (fun _ _ e => Heap.get?_push_of_some _ e) r, fun z => Nat.lt_irrefl _ (reads_lt r _ z)⟩
  have e3 : PySem.W.EachIs (fun u b => ∃ v, F v b ∧ RelV v u ∧ Dp X.K H v (enc b)) its bs := e1
  refine wpAny_bind (wpAny_holding (PySem.W.list_sort_data (enc := enc) (s := { s with heap := h1.push (seqObj "list" its.toArray 0) }) hoL e3 er (PySem.W.AllAlike.of hal) hso (by omega) (fun b _ => by have := hdp b; show X.A.units + 1 + 1 + (enc b).depth < cLine; omega) fun out2 h2 e2 => ?_))
  obtain ⟨ys, rys, pys⟩ := of_each (F := F) (fun u b ⟨v, m, r, d⟩ => ⟨v, r, m⟩) e2
  obtain ⟨c, hc2⟩ := sortedHeap_at (vs := its) (out := out2.toArray) hoL
  have hold : ∀ b u, h1.get? b = some u → (sortedHeap (h1.push (seqObj "list" its.toArray 0)) h1.objs.size its out2.toArray).get? b = some u := fun b u e => by
    have lt := Heap.lt_size e
    exact (sortedHeap_old (Nat.ne_of_lt lt) (by rw [Heap.size_push]; exact Nat.lt_succ_of_lt lt)).trans (Heap.get?_push_of_some _ e)
  have hly : ys.length ≤ sizeLine := by rw [rys.length, h2, hlen]; omega
  refine wpAny_pure ⟨_, rfl, .ref h1.objs.size, upd H h1.objs.size (.lst ys), I1.laid (t' := s.toks) hold (Nat.le_refl _) ⟨hly, out2, c, rys, hc2⟩, rfl, q ys _ pys (I1.hok.fresh (Nat.le_refl _))⟩
end WW

set_option Elab.async false
set_option linter.all false
set_option maxRecDepth 100000
/-! Rules at a fragment that is told (for blocks of comprehensions). -/
namespace WW
open PySem PySem.Spec PyProof.Rows L2
def rTupOf (K : PySem.W.Frag) : List V → Hp → VK → Prop := fun xs H Q => ∃ p ys, xs = [.ref p] ∧ ((SqL K H p ys ∧ ∀ l, H l = none → Q (.ref l) (upd H l (.tup ys))) ∨ (SqT K H p ys ∧ Q (.ref p) H))
def rListOf (K : PySem.W.Frag) : List V → Hp → VK → Prop := fun xs H Q => ∃ p ys, xs = [.ref p] ∧ (SqL K H p ys ∨ SqT K H p ys) ∧ ∀ l, H l = none → Q (.ref l) (upd H l (.lst ys))
section
variable {X : Cx} {K : PySem.W.Frag}
theorem ixK (h : X.K = K) : IxR X (rIx K) := h ▸ ix_seq
theorem inK (h : X.K = K) : OpR X (compareOp .In) (rIn K false) := h ▸ op_in_seq
theorem notInK (h : X.K = K) : OpR X (compareOp .NotIn) (rIn K true) := h ▸ op_notIn_seq
theorem lenK (h : X.K = K) : CallR X (.builtin "len") (rLen K) := h ▸ (call_len : CallR X _ (rLen X.K))
theorem isiK (h : X.K = K) : CallR X (.builtin "isinstance") (rIsi K) := h ▸ call_isi
theorem tupOfK (h : X.K = K) : CallR X (.type "tuple") (rTupOf K) := h ▸ (call_tuple_of : CallR X _ (rTupOf X.K))
theorem listOfK (h : X.K = K) : CallR X (.type "list") (rListOf K) := h ▸ (call_list_of : CallR X _ (rListOf X.K))
theorem eqDK (h : X.K = K) (hu : X.A.units + 64 < cLine) : OpR X (compareOp .Eq) (rEqD K) := h ▸ op_eqD hu
theorem room65 {k : Nat} {A : Around} (r : Room k A) : A.units + 65 < cLine := by have := r.un; omega
end
end WW

set_option Elab.async false
set_option linter.all false
set_option maxRecDepth 100000
set_option maxHeartbeats 4000000
/-! Loops and comprehensions over anything that stays. -/
namespace WW
open PySem PySem.Spec PyProof.Rows L2 Evl
/-- whatever is laid behind H, the iterator gives xs -/
structure Steady (J : It) (H : Hp) (xs : List V) : Prop where
  go : ∀ i H', Ex H H' → i < xs.length → J.go i H'
  yld : ∀ i H' x H'', Ex H H' → i < xs.length → J.yld i H' x H'' → H'' = H' ∧ xs[i]? = some x
  stop : ∀ H', Ex H H' → J.stop xs.length H'
section
variable {K : PySem.W.Frag} {H : Hp} {a : Addr} {xs : List V}
theorem st_l (h : SqL K H a xs) : Steady (Itl K a) H xs where
  go := fun i H' e hi => ⟨xs, xs[i], ex_l e h, List.getElem?_eq_getElem hi⟩
  yld := fun i H' x H'' e _ y => ⟨y.1, y.2 xs (ex_l e h)⟩
  stop := fun H' e => ⟨xs, ex_l e h, Nat.le_refl _⟩
theorem st_t (h : SqT K H a xs) : Steady (Itt K a) H xs where
  go := fun i H' e hi => ⟨xs, xs[i], ex_t e h, List.getElem?_eq_getElem hi⟩
  yld := fun i H' x H'' e _ y => ⟨y.1, y.2 xs (ex_t e h)⟩
  stop := fun H' e => ⟨xs, ex_t e h, Nat.le_refl _⟩
def chs (z : Str) : List V := z.cps.toList.map fun c => V.str ⟨#[c]⟩
theorem chs_len (z : Str) : (chs z).length = z.length := by unfold chs; rw [List.length_map, Array.length_toList]; rfl
theorem st_s {z : Str} : Steady (Its z) H (chs z) where
  go := fun i H' e hi => by
    have h2 : (chs z).length = z.cps.size := by unfold chs; simp
    show i < z.cps.size
    omega
  yld := fun i H' x H'' e hi y => by
    obtain ⟨e1, c, hc, rfl⟩ := y
    refine ⟨e1, ?_⟩
    unfold chs
    rw [List.getElem?_map]
    have e2 : z.cps.toList[i]? = some c := by simpa using hc
    rw [e2]
    rfl
  stop := fun H' e => by
    show z.cps.size ≤ (chs z).length
    unfold chs
    simp
theorem st_r {lo : Int} {n : Nat} : Steady (Itr lo n) H ((List.range n).map fun (i : Nat) => V.int (lo + (i : Int))) where
  go := fun i H' e hi => by
    show i < n
    simpa using hi
  yld := fun i H' x H'' e hi y => by
    obtain ⟨e1, rfl⟩ := y
    refine ⟨e1, ?_⟩
    have hi2 : i < n := by simpa using hi
    rw [List.getElem?_map, List.getElem?_range hi2]
    rfl
  stop := fun H' e => by
    show n ≤ _
    simp
end
section
variable {J : It} {H : Hp} {xs : List V} {D : Addr} {σ : L2.St} {vs : List Nat} {j : Nat} {tt : TT} {te : TE} {f : V → Bool} {v : V → V} {Q : Hp → Prop}
theorem take_snoc {α : Type} {l : List α} {i : Nat} {x : α} (h : l[i]? = some x) : l.take (i + 1) = l.take i ++ [x] := by
  rw [List.take_add_one, h]
  rfl
theorem lc_ev (S : Steady J H xs) (hz : xs.length < 100000) (hw : ∀ x, wipe ((wipe σ vs).set j (some x)) vs = wipe σ vs) (hD : H D = none)
    (ht : ∀ x ∈ xs, EvT tt ((wipe σ vs).set j (some x)) H (f x)) (he : ∀ x ∈ xs, f x = true → Ev te ((wipe σ vs).set j (some x)) H (v x))
    (q : ∀ H', Ex H H' → H' D = some (.lst ((xs.filter f).map v)) → Q H') :
    ∃ W : Nat → Nat → Hp → Prop, (∃ m, W 0 m (upd H D (.lst []))) ∧ ∀ i m H, W i m H →
      (J.stop i H ∧ Q H) ∨ (J.go i H ∧ ∃ Nx : Hp → Prop, (∀ H', Nx H' → ∃ m', m' < m ∧ W (i + 1) m' H') ∧ ∀ x H', J.yld i H x H' → gName j x (wipe σ vs) H' fun σ2 H2 => wipe σ2 vs = wipe σ vs ∧ tt σ2 H2 fun b H3 =>
        if b = true then te σ2 H3 fun y H4 => ∃ acc, H4 D = some (.lst acc) ∧ acc.length < sizeLine ∧ Nx (upd H4 D (.lst (acc ++ [y]))) else Nx H3) := by
  refine ⟨fun i m H' => m = xs.length - i ∧ i ≤ xs.length ∧ Ex H H' ∧ H' D = some (.lst (((xs.take i).filter f).map v)), ⟨xs.length, by simp, Nat.zero_le _, Ex.new hD, upd_same⟩, ?_⟩
  rintro i m H' ⟨rfl, hi, e, hd⟩
  by_cases hlt : i < xs.length
  · refine .inr ⟨S.go i H' e hlt, fun H' => Ex H H' ∧ H' D = some (.lst (((xs.take (i + 1)).filter f).map v)), fun H'' p' => ⟨xs.length - (i + 1), by omega, rfl, hlt, p'⟩, fun x H'' y => ?_⟩
    obtain ⟨e1, hx⟩ := S.yld i H' x H'' e hlt y
    subst e1
    have mx : x ∈ xs := List.mem_of_getElem? hx
    refine ⟨hw x, ht x mx _ e _ fun H2 e2 => ?_⟩
    rw [take_snoc hx]
    cases hf : f x with
    | true =>
      refine he x mx hf H2 (e.trans e2) _ fun H3 e3 => ⟨_, e3 _ _ (e2 _ _ hd), ?_, (e.trans e2 |>.trans e3).mut hD, ?_⟩
      · have h1 := List.length_filter_le f (xs.take i)
        rw [List.length_map]
        have h2 : (xs.take i).length ≤ xs.length := by rw [List.length_take]; omega
        exact sz_lt (by omega)
      · rw [upd_same, List.filter_append, List.map_append]
        simp [hf]
    | false =>
      refine ⟨e.trans e2, ?_⟩
      rw [e2 _ _ hd, List.filter_append]
      simp [hf]
  · have e1 : i = xs.length := by omega
    subst e1
    rw [List.take_length] at hd
    exact .inl ⟨S.stop H' e, q H' e hd⟩
/-- {e for x in ..} of texts -/
theorem set_ev {P : Program} {w : World} {u : V → Str} (S : Steady J H xs) (hz : xs.length < 1000) (hw : ∀ x, wipe ((wipe σ vs).set j (some x)) vs = wipe σ vs) (hD : H D = none)
    (he : ∀ x ∈ xs, Ev te ((wipe σ vs).set j (some x)) H (.str (u x)))
    (q : ∀ H' ks, Ex H H' → ks.Nodup → (∀ k, k ∈ ks ↔ k ∈ xs.map u) → H' D = some (SSO P w D ks) → Q H') :
    ∃ W : Nat → Nat → Hp → Prop, (∃ m, W 0 m (upd H D (SSO P w D []))) ∧ ∀ i m H2, W i m H2 → (J.stop i H2 ∧ Q H2) ∨
    (J.go i H2 ∧ ∃ Nx : Hp → Prop, (∀ H', Nx H' → ∃ m', m' < m ∧ W (i + 1) m' H') ∧ ∀ x H', J.yld i H2 x H' → gName j x (wipe σ vs) H' fun σ3 H3 => wipe σ3 vs = wipe σ vs ∧
      tYes σ3 H3 fun b H4 => if b = true then te σ3 H4 fun y H5 => addS P w y D H5 Nx else Nx H4) := by
  refine ⟨fun i m H' => m = xs.length - i ∧ i ≤ xs.length ∧ Ex H H' ∧ ∃ ks, ks.Nodup ∧ ks.length ≤ i ∧ (∀ k, k ∈ ks ↔ k ∈ (xs.take i).map u) ∧ H' D = some (SSO P w D ks), ⟨xs.length, by simp, Nat.zero_le _, Ex.new hD, [], List.nodup_nil, Nat.le_refl _, by simp, upd_same⟩, ?_⟩
  rintro i m H' ⟨rfl, hi, e, ks, nd, hl, hm, hd⟩
  by_cases hlt : i < xs.length
  · refine .inr ⟨S.go i H' e hlt, fun H' => Ex H H' ∧ ∃ ks, ks.Nodup ∧ ks.length ≤ i + 1 ∧ (∀ k, k ∈ ks ↔ k ∈ (xs.take (i + 1)).map u) ∧ H' D = some (SSO P w D ks), fun H'' p' => ⟨xs.length - (i + 1), by omega, rfl, hlt, p'⟩, fun x H'' y => ?_⟩
    obtain ⟨e1, hx⟩ := S.yld i H' x H'' e hlt y
    subst e1
    have mx : x ∈ xs := List.mem_of_getElem? hx
    refine ⟨hw x, ?_⟩
    unfold tYes
    refine he x mx _ e _ fun H3 e3 => ?_
    refine ⟨u x, ks, rfl, e3 _ _ hd, ?_, fun ks' ad => ⟨(e.trans e3).mut hD, ks', ?_, ?_, ?_, upd_same⟩⟩
    · have : (1002 : Nat) ≤ scanBound := by decide
      omega
    · rcases ad with ⟨_, rfl⟩ | ⟨n, p⟩
      · exact nd
      · exact p.nodup_iff.mpr (List.nodup_cons.mpr ⟨n, nd⟩)
    · rcases ad with ⟨_, rfl⟩ | ⟨n, p⟩
      · omega
      · rw [p.length_eq, List.length_cons]; omega
    · intro k
      rw [take_snoc hx, List.map_append, List.mem_append, ← hm k]
      rcases ad with ⟨m, rfl⟩ | ⟨n, p⟩
      · constructor
        · exact fun z => .inl z
        · rintro (z | z)
          · exact z
          · simp at z; rw [z]; exact m
      · rw [p.mem_iff, List.mem_cons]
        constructor
        · rintro (z | z)
          · exact .inr (by simp [z])
          · exact .inl z
        · rintro (z | z)
          · exact .inr z
          · simp at z
            exact .inl z
  · have e1 : i = xs.length := by omega
    subst e1
    rw [List.take_length] at hm
    exact .inl ⟨S.stop H' e, q H' ks e nd hm hd⟩
end
/-- any for loop of n turns -/
theorem for_go {J : It} {n : Nat} {g : TG} {tb : TS} {D : Ends} {σ : L2.St} {H : Hp} (Pv : Nat → L2.St → Hp → Prop) (h0 : Pv 0 σ H) (hgo : ∀ i σ H, i < n → Pv i σ H → J.go i H) (hst : ∀ σ H, Pv n σ H → J.stop n H)
    (hs : ∀ i σ H x H', i < n → Pv i σ H → J.yld i H x H' → g x σ H' fun σ2 H2 => tb { D with nx := Pv (i + 1), ct := Pv (i + 1), bk := D.nx } σ2 H2) (hd : ∀ σ H, Pv n σ H → D.nx σ H) :
    ∃ W : Nat → Nat → L2.St → Hp → Prop, (∃ m, W 0 m σ H) ∧ ∀ i m σ H, W i m σ H →
      (J.stop i H ∧ D.nx σ H) ∨ (J.go i H ∧ ∃ N : L2.St → Hp → Prop, (∀ σ' H', N σ' H' → ∃ m', m' < m ∧ W (i + 1) m' σ' H') ∧ ∀ x H', J.yld i H x H' → g x σ H' fun σ2 H2 => tb { D with nx := N, ct := N, bk := D.nx } σ2 H2) := by
  refine ⟨fun i m σ H => m = n - i ∧ i ≤ n ∧ Pv i σ H, ⟨n, by simp, Nat.zero_le _, h0⟩, ?_⟩
  rintro i m σ H ⟨rfl, hi, p⟩
  by_cases hlt : i < n
  · refine .inr ⟨hgo i σ H hlt p, Pv (i + 1), fun σ' H' p' => ⟨n - (i + 1), by omega, rfl, hlt, p'⟩, fun x H' y => hs i σ H x H' hlt p y⟩
  · have e : i = n := by omega
    subst e
    exact .inl ⟨hst σ H p, hd σ H p⟩
end WW
namespace WW
open PySem PySem.Spec PyProof.Rows L2 Evl
/-- whatever is laid behind H, enumerate gives xs -/
structure EnumS (J : It) (H : Hp) (xs : List V) : Prop where
  go : ∀ i H', Ex H H' → i < xs.length → J.go i H'
  yld : ∀ i H' v H'', Ex H H' → i < xs.length → J.yld i H' v H'' → ∃ T x, v = .ref T ∧ H' T = none ∧ H'' = upd H' T (.tup [.int (i : Nat), x]) ∧ xs[i]? = some x
  stop : ∀ H', Ex H H' → J.stop xs.length H'
section
variable {K : PySem.W.Frag} {H : Hp} {a : Addr} {xs : List V}
theorem en_l (h : SqL K H a xs) : EnumS (Ite K a) H xs where
  go := fun i H' e hi => ⟨xs, xs[i], ex_l e h, List.getElem?_eq_getElem hi⟩
  yld := fun i H' v H'' e _ ⟨T, x, e1, e2, e3, e4⟩ => ⟨T, x, e1, e2, e3, e4 xs (ex_l e h)⟩
  stop := fun H' e => ⟨xs, ex_l e h, Nat.le_refl _⟩
theorem en_t (h : SqT K H a xs) : EnumS (IteT K a) H xs where
  go := fun i H' e hi => ⟨xs, xs[i], ex_t e h, List.getElem?_eq_getElem hi⟩
  yld := fun i H' v H'' e _ ⟨T, x, e1, e2, e3, e4⟩ => ⟨T, x, e1, e2, e3, e4 xs (ex_t e h)⟩
  stop := fun H' e => ⟨xs, ex_t e h, rfl⟩
/-- a list or a tuple -/
def SqX (H : Hp) (a : Addr) (xs : List V) : Prop := H a = some (.lst xs) ∨ H a = some (.tup xs)
theorem SqX.ex {H H' : Hp} (e : Ex H H') (h : SqX H a xs) : SqX H' a xs := h.imp (e _ _) (e _ _)
theorem ienum_go {σ : L2.St} {i : Nat} {R : It → Hp → Prop} (h : σ[i]? = some (some (.ref a))) (hx : SqX H a xs) (k : ∀ J, EnumS J H xs → R J H) : iOr (iEnum K (tCons (tVar i) tNil)) (iEnumT K (tCons (tVar i) tNil)) σ H R := by
  rcases hx with hx | hx
  · exact .inl ⟨_, h, a, xs, rfl, sq_of hx, k _ (en_l (sq_of hx))⟩
  · exact .inr ⟨_, h, a, xs, rfl, st_of hx, k _ (en_t (st_of hx))⟩
theorem iseq_go {σ : L2.St} {i : Nat} {R : It → Hp → Prop} (h : σ[i]? = some (some (.ref a))) (hx : SqX H a xs) (k : ∀ J, Steady J H xs → R J H) : iOr (iList K (tVar i)) (iTup K (tVar i)) σ H R := by
  rcases hx with hx | hx
  · exact .inl ⟨_, h, a, rfl, ⟨xs, sq_of hx⟩, k _ (st_l (sq_of hx))⟩
  · exact .inr ⟨_, h, a, rfl, ⟨xs, st_of hx⟩, k _ (st_t (st_of hx))⟩
theorem cut_take (xs : List V) (i : Nat) : cutV xs none (some (i : Int)) = xs.take i := by
  unfold cutV
  rw [HT.sIx_none, HT.sIx_nat]
  simp
theorem cut_drop (xs : List V) (i : Nat) : cutV xs (some (i : Int)) none = xs.drop i := by
  unfold cutV
  rw [HT.sIx_none, HT.sIx_nat]
  rcases Nat.le_total i xs.length with h | h
  · rw [Nat.min_eq_left h, List.take_of_length_le (by rw [List.length_drop]; omega)]
  · rw [Nat.min_eq_right h, List.drop_of_length_le h]
    simp
/-- xs[:i] -/
theorem slx_take {i : Nat} {Q : VK} (hx : SqX H a xs) (hi : i ≤ xs.length) (k : ∀ p H', Ex H H' → SqX H' p (xs.take i) → Q (.ref p) H') : rSlL K (.ref a) none (some (i : Int)) H Q ∨ rSlA K (.ref a) none (some (i : Int)) H Q := by
  rcases hx with hx | hx
  · exact .inl ⟨a, xs, rfl, sq_of hx, fun p hp => k p _ (Ex.new hp) (by rw [cut_take]; exact .inl upd_same)⟩
  · refine .inr ⟨a, xs, rfl, st_of hx, fun ⟨_, h2⟩ => k a H (Ex.refl _) (.inr ?_), fun _ p hp => k p _ (Ex.new hp) (by rw [cut_take]; exact .inr upd_same)⟩
    rw [HT.sIx_nat] at h2
    have e : xs.take i = xs := List.take_of_length_le (by omega)
    rw [e]
    exact hx
theorem tupof_go {Q : VK} (hx : SqX H a xs) (k : ∀ tp H', Ex H H' → H' tp = some (.tup xs) → Q (.ref tp) H') : rTupOf K [.ref a] H Q := by
  rcases hx with hx | hx
  · exact ⟨a, xs, rfl, .inl ⟨sq_of hx, fun l hl => k l _ (Ex.new hl) upd_same⟩⟩
  · exact ⟨a, xs, rfl, .inr ⟨st_of hx, k a H (Ex.refl _) hx⟩⟩
theorem listof_go {Q : VK} (hx : SqX H a xs) (k : ∀ l H', Ex H H' → H l = none → H' l = some (.lst xs) → Q (.ref l) H') : rListOf K [.ref a] H Q :=
  ⟨a, xs, rfl, hx.imp sq_of st_of, fun l hl => k l _ (Ex.new hl) hl upd_same⟩
theorem putF_le {f : Str} {y : V} : ∀ fs : List (Str × V), (putF f y fs).length ≤ fs.length + 1
  | [] => by show 1 ≤ 1; omega
  | (g, z) :: r => by
    have ih := putF_le (f := f) (y := y) r
    unfold putF
    split
    · simp
    · simp; omega
end
end WW

set_option Elab.async false
set_option linter.all false
set_option maxRecDepth 100000
set_option maxHeartbeats 4000000
/-! Triples (number, text, number) as data. -/
namespace WW
open PySem PySem.Spec PyProof.Rows L2
/-- a step: from, word, to -/
abbrev Stp := Int × Str × Int
def encS (t : Stp) : PyData := .tuple [.int t.1, .str t.2.1, .int t.2.2]
def OkS (z : Stp) : Prop := PyData.strOk z.2.1 = true
theorem encS_lay {z : Stp} (h : OkS z) : (encS z).canLay0 = true := by
  have h : PyData.strOk z.2.1 = true := h
  simp [encS, PyData.canLay0, PyData.canLayAll0, h]
theorem encS_depth (z : Stp) : (encS z).depth ≤ 2 := by simp [encS, PyData.depth, PyData.depthAll]
theorem encSs_lay : ∀ zs : List Stp, (∀ z ∈ zs, OkS z) → PyData.canLayAll0 (zs.map encS) = true
  | [], _ => by simp [PyData.canLayAll0]
  | z :: zs, h => by
    have h1 := encS_lay (h z List.mem_cons_self)
    have h2 := encSs_lay zs fun y hy => h y (List.mem_cons_of_mem _ hy)
    simp only [List.map_cons, PyData.canLayAll0]
    rw [h1, h2]
    rfl
theorem encSs_depth : ∀ zs : List Stp, PyData.depthAll (zs.map encS) ≤ 2
  | [] => by simp [PyData.depthAll]
  | z :: zs => by
    have h1 := encSs_depth zs
    have h2 := encS_depth z
    simp only [List.map_cons, PyData.depthAll]
    omega
theorem encS_shaped {z : Stp} (h0 : OkS z) : SeqAt.shaped (encS z) = true := by
  have h := encS_depth z
  show ((encS z).canLay0 && decide ((encS z).depth ≤ 64)) = true
  rw [Bool.and_eq_true]
  exact ⟨encS_lay h0, decide_eq_true (by omega)⟩
theorem encSs_shaped {zs : List Stp} (h0 : ∀ z ∈ zs, OkS z) : SeqAt.shaped (.list (zs.map encS)) = true := by
  have h1 := encSs_depth zs
  have h2 : PyData.depth (.list (zs.map encS)) ≤ 64 := by
    simp only [PyData.depth]
    omega
  show (PyData.canLay0 (.list (zs.map encS)) && decide (PyData.depth (.list (zs.map encS)) ≤ 64)) = true
  rw [Bool.and_eq_true]
  exact ⟨by simp only [PyData.canLay0]; exact encSs_lay zs h0, decide_eq_true h2⟩
theorem encSs_shapedT {zs : List Stp} (h0 : ∀ z ∈ zs, OkS z) : SeqAt.shaped (.tuple (zs.map encS)) = true := by
  have h1 := encSs_depth zs
  have h2 : PyData.depth (.tuple (zs.map encS)) ≤ 64 := by
    simp only [PyData.depth]
    omega
  show (PyData.canLay0 (.tuple (zs.map encS)) && decide (PyData.depth (.tuple (zs.map encS)) ≤ 64)) = true
  rw [Bool.and_eq_true]
  exact ⟨by simp only [PyData.canLay0]; exact encSs_lay zs h0, decide_eq_true h2⟩
theorem encS_eqv (z w : Stp) : PyData.eqv (encS z) (encS w) = decide (z = w) := by
  obtain ⟨a, b, c⟩ := z
  obtain ⟨a', b', c'⟩ := w
  have e : PyData.eqv (encS (a, b, c)) (encS (a', b', c')) = ((a == a') && ((b == b') && ((c == c') && true))) := by simp only [encS, PyData.eqv, PyData.eqvAll]
  rw [e, Bool.eq_iff_iff]
  simp
theorem encSs_eqvAll : ∀ (zs ws : List Stp), PyData.eqvAll (zs.map encS) (ws.map encS) = decide (zs = ws)
  | [], [] => by simp [PyData.eqvAll]
  | [], _ :: _ => by simp [PyData.eqvAll]
  | _ :: _, [] => by simp [PyData.eqvAll]
  | z :: zs, w :: ws => by
    rw [List.map_cons, List.map_cons]
    simp only [PyData.eqvAll]
    rw [encS_eqv, encSs_eqvAll zs ws, Bool.eq_iff_iff]
    simp
theorem encSs_eqv (zs ws : List Stp) : PyData.eqv (.list (zs.map encS)) (.list (ws.map encS)) = decide (zs = ws) := by
  simp only [PyData.eqv]
  exact encSs_eqvAll zs ws
theorem encSs_eqvT (zs ws : List Stp) : PyData.eqv (.tuple (zs.map encS)) (.tuple (ws.map encS)) = decide (zs = ws) := by
  simp only [PyData.eqv]
  exact encSs_eqvAll zs ws
theorem encSs_any (zs : List Stp) (z : Stp) : ((zs.map encS).any fun y => PyData.eqv y (encS z)) = decide (z ∈ zs) := by
  rw [List.any_map, Bool.eq_iff_iff, List.any_eq_true]
  constructor
  · rintro ⟨w, hw, e⟩
    have e2 := encS_eqv w z
    rw [show PyData.eqv (encS w) (encS z) = true from e] at e2
    rw [← of_decide_eq_true e2.symm]
    exact decide_eq_true hw
  · intro h
    refine ⟨z, of_decide_eq_true h, ?_⟩
    show PyData.eqv (encS z) (encS z) = true
    rw [encS_eqv]
    exact decide_eq_true rfl
theorem encS_alike (z w : Stp) : PySem.W.alike (encS z) (encS w) = true := by simp [encS, PySem.W.alike, PySem.W.alikeAll]
theorem encS_sortable (zs : List Stp) : PySem.W.Sortable (zs.map encS) := PySem.W.Sortable.tuples fun _ => ⟨_, _, rfl⟩
theorem encS_keys {z w : Stp} (h : PySem.W.keyToks (encS z) = PySem.W.keyToks (encS w)) : z = w := by
  obtain ⟨a, b, c⟩ := z
  obtain ⟨a', b', c'⟩ := w
  simp [encS, PySem.W.keyToks, PySem.W.keyToksAll] at h
  obtain ⟨h1, h2, h3⟩ := h
  have hb : b = b' := by
    cases b; cases b'
    first | exact congrArg Str.mk (Array.ext' h2) | exact congrArg Str.mk h2
  rw [h1, hb, h3]
abbrev leT : Stp → Stp → Bool := PySem.W.dataLe false encS
theorem leT_anti (a b : Stp) (h1 : leT a b = true) (h2 : leT b a = true) : a = b := by
  refine encS_keys ?_
  have e1 : (listOrd itemOrd).blt (PySem.W.keyToks (encS b)) (PySem.W.keyToks (encS a)) = false := by simpa [leT, PySem.W.dataLe, PySem.W.sortLe] using h1
  have e2 : (listOrd itemOrd).blt (PySem.W.keyToks (encS a)) (PySem.W.keyToks (encS b)) = false := by simpa [leT, PySem.W.dataLe, PySem.W.sortLe] using h2
  exact (listOrd itemOrd).total _ _ e2 e1
def sortT (ts : List Stp) : List Stp := ts.mergeSort leT
theorem sortT_perm (ts : List Stp) : (sortT ts).Perm ts := List.mergeSort_perm ts leT
theorem sortT_sorted (ts : List Stp) : (sortT ts).Pairwise (fun a b => leT a b = true) := List.pairwise_mergeSort (PySem.W.sortLe_total _ _ _).trans (fun a b => Bool.or_eq_true_iff.mpr ((PySem.W.sortLe_total _ _ _).total a b)) ts
theorem sortT_congr {ks ls : List Stp} (p : ks.Perm ls) : sortT ks = sortT ls :=
  List.Perm.eq_of_pairwise (fun a b _ _ => leT_anti a b) (sortT_sorted ks) (sortT_sorted ls) (((sortT_perm ks).trans p).trans (sortT_perm ls).symm)
theorem sortT_len (ts : List Stp) : (sortT ts).length = ts.length := (sortT_perm ts).length_eq
end WW

set_option Elab.async false
set_option linter.all false
set_option maxRecDepth 100000
set_option maxHeartbeats 4000000
/-! A head's facts: those of the layer, defs found anyhow, one more Bool. -/
namespace WW
open PySem PySem.Spec PyProof.Rows L2 He
def obsB (fa : List Fa) (fn : List He5.DefA) (ex : PySem.W.Frag → Bool) (K : PySem.W.Frag) : He.AlD := (((fa.all fun f => f.ok K) && ex K) && fn.all fun d => d.ok K, fn.map fun d => He5.fnA K (d.at_ K))
def SaysB (fa : List Fa) (fn : List He5.DefA) (ex : PySem.W.Frag → Bool) (K : PySem.W.Frag) : Prop := obsB fa fn ex K = He5.valA fn
def obsBG (n : Nat) (fa : List Fa) (fn : List He5.DefA) (ex : PySem.W.Frag → Bool) (g : Addr → Option Obj) : He.AlD := obsB fa fn ex (frG g (He5.asA g n))
def hookB (n : Nat) (fa : List Fa) (fn : List He5.DefA) (ex : PySem.W.Frag → Bool) : PySem.W.Hook where
  α := He.AlD
  obs := fun s => obsBG n fa fn ex s.heap.get?
  val := fun _ => He5.valA fn
  says := fun _ h => ∃ K : PySem.W.Frag, K.In h ∧ SaysB fa fn ex K
  of := fun _ _ e => ⟨_, frG_in, e⟩
  keeps := fun _ _ _ ⟨K, hK, c⟩ k => ⟨K, PySem.W.Frag.In.keeps hK k, c⟩
theorem obsBG_eq {n : Nat} {fa : List Fa} {fn : List He5.DefA} {ex : PySem.W.Frag → Bool} {g : Addr → Option Obj} {s : Shared} (h : ∀ a, g a = s.heap.get? a) : obsBG n fa fn ex g = (hookB n fa fn ex).obs s := by
  have e : g = s.heap.get? := funext h
  rw [e] <;> rfl
section
variable {fa : List Fa} {fn : List He5.DefA} {ex : PySem.W.Frag → Bool} {K : PySem.W.Frag}
theorem SaysB.fact (c : SaysB fa fn ex K) {f : Fa} (h : f ∈ fa) : f.ok K = true := by
  have c1 := (ba (ba (show (((fa.all fun f => f.ok K) && ex K) && fn.all fun d => d.ok K) = true from congrArg (fun z : He.AlD => z.1) c)).1).1
  exact List.all_eq_true.mp c1 f h
theorem SaysB.ext (c : SaysB fa fn ex K) : ex K = true :=
  (ba (ba (show (((fa.all fun f => f.ok K) && ex K) && fn.all fun d => d.ok K) = true from congrArg (fun z : He.AlD => z.1) c)).1).2
theorem SaysB.def_ (c : SaysB fa fn ex K) (i : Nat) {d : He5.DefA} (h : fn[i]? = some d := by rfl) : ∃ fd, L2.FunD K d.name d.qual d.params d.body d.scope (d.dvs K) (d.kws K) (d.at_ K) fd := by
  have c2 := (ba (show (((fa.all fun f => f.ok K) && ex K) && fn.all fun d => d.ok K) = true from congrArg (fun z : He.AlD => z.1) c)).2
  have e : fn.map (fun d => He5.fnA K (d.at_ K)) = fn.map He5.DefA.val := congrArg (fun z : He.AlD => z.2) c
  have e2 : (fn.map fun d => He5.fnA K (d.at_ K))[i]? = (fn.map He5.DefA.val)[i]? := by rw [e]
  rw [List.getElem?_map, List.getElem?_map, h] at e2
  exact He5.DefA.funD (Option.some.inj e2) (List.all_eq_true.mp c2 d (List.mem_of_getElem? h))
end
/-- the getter of a property -/
def getr (K : PySem.W.Frag) (C : Addr) (f : Str) : Addr := match PySem.W.recIn K (ma K C f) "property" with
  | some (.ref g :: _) => g
  | _ => 0
def propB (K : PySem.W.Frag) (C : Addr) (f : Str) : Bool := eqO (PySem.W.findIn K (.ref C) f) (some (some (.ref (ma K C f)))) && (eqO (PySem.W.specialIn K (.ref (ma K C f)) "__get__") (some (some (.builtin "property.__get__"))) &&
  (decide (PySem.W.takesIn K (.ref (ma K C f)) = some true) && (match PySem.W.recIn K (ma K C f) "property" with
    | some (.ref g :: _) => true
    | _ => false)))
theorem propB_ok {K : PySem.W.Frag} {C : Addr} {f : Str} (h : propB K C f = true) : PropOf K C f (ma K C f) (getr K C f) := by
  obtain ⟨h1, h⟩ := ba h
  obtain ⟨h2, h⟩ := ba h
  obtain ⟨h3, h4⟩ := ba h
  refine ⟨eqO_ok h1, eqO_ok h2, of_decide_eq_true h3, ?_⟩
  unfold getr
  cases e : PySem.W.recIn K (ma K C f) "property" with
  | none => rw [e] at h4; cases h4
  | some l =>
    cases l with
    | nil => rw [e] at h4; cases h4
    | cons v r =>
      cases v with
      | ref g => exact ⟨r, rfl⟩
      | _ => rw [e] at h4; cases h4
end WW

set_option Elab.async false
set_option linter.all false
set_option maxRecDepth 100000
set_option maxHeartbeats 4000000
/-! An own exception (over ValueError) whose __init__ says super().__init__(a text) and keeps its argument. -/
namespace WW
open PySem PySem.Spec PyProof.Rows L2

section
variable {prog : Program} {w : World} {A : Around} {E : Value → Shared → Prop} {h : Heap} {g : Array GenState} {d : Drawn} {t : Nat} {os : OsState}
variable {nm q : Str} {C N : Addr} {bs bm : List Value} {hdct : Bool} {sn : List Str} {sub : List Value} {ab : Bool} {col : Option Bool} {dd : Option Addr} {k0 k1 k2 k3 k5 : Option Value}
/-- the bound ValueError.__init__ called -/
theorem call_bwV {u e t0 : Addr} {rest : List Value} {Q : Value → Shared → Prop}
    (hC : h.get? C = some (excClassObj nm q C N bs bm hdct sn sub ab col dd k0 k1 k2 k3 k5 "ValueError.__new__")) (he : h.get? e = some (PySem.HandSPX.excO C t0)) (hu : h.get? u = some (PySem.W.kxs_mw "ValueError.__init__" e)) (hrest : rest.length ≤ sizeLine)
    (hq : ∀ h' t1, (∀ b o, b ≠ e → h.get? b = some o → h'.get? b = some o) → h'.get? e = some (PySem.HandSPX.excO C t1) → Q .none ⟨h', g, d, t, os⟩) :
    wpAny (model prog w) A (call (.ref u) rest) Q E ⟨h, g, d, t, os⟩ := by
  refine wpAny_call (codeAny_of_tree ?_)
  show wpAny _ A.in1 (callAny (.ref u) ⟨rest, []⟩) _ _ _
  simp only [callAny]
  refine wpAny_bind (wpAny_load hu ?_)
  simp only [PySem.W.kxs_mw, show (Value.type "method-wrapper" == Value.type "method" || Value.type "method-wrapper" == Value.type "builtin_function_or_method" || Value.type "method-wrapper" == Value.type "method-wrapper") = true by decide, if_true]
  refine PySem.W.KFB.if_so (by decide) ?_
  refine wpAny_bind (PySem.ESX.check_bound F.excBase_ValueError hC he rfl ?_)
  refine wpAny_bind (wpAny_pure (wpAny_pure ?_))
  refine ⟨Code.quiet_builtin _ (by decide +kernel), codeAny_builtin F.excBase_ValueError.initEntry ?_⟩
  rw [Around.under_plainId F.excBase_ValueError.init.plain _]
  wp_walk
  refine hq _ h.objs.size (fun b o hb ho => ?_) ?_
  · rw [Heap.get?_update_other _ _ (Ne.symm hb)]
    exact Heap.get?_push_of_some _ ho
  · rw [Heap.get?_update_self _ (Heap.get?_push_of_some _ he) rfl]
    rfl
end

/-- the context of such a body -/
def cxE (P : Program) (w : World) (K : PySem.W.Frag) (mg : Str → Option Value) (base : Heap) (par qual : Str) (scope : Scope) (f cc : Addr) (cd : Value) (A : Around) (outer : List Env) (s : Shared) (H : Hp) : Cx where
  prog := P
  w := w
  K := K
  mg := mg
  base := base
  A := A.deeper (PySem.W.ksEnv qual scope s.heap.objs.size f cd cc)
  N := ["self", par]
  s_0 := s
  H_0 := H
  env := PySem.W.ksEnv qual scope s.heap.objs.size f cd cc
  outer := outer
  stack := PySem.W.ksEnv qual scope s.heap.objs.size f cd cc :: outer
  ex := []
  calm := true
  fn := fun x => !(x == ("__class__" : Str))
  pn := []
  xe := fun _ _ => False

/-- what the written part says of such a class and its __init__ -/
structure ExD (P : Program) (K : PySem.W.Frag) (mg : Str → Option Value) (C f cc cda : Addr) (qual : Str) (params : Arguments) (body : List Stmt) (scope : Scope) (fd : FuncData) : Prop where
  T : OexC K C
  fdat : ∃ kV doc pm an ct, fd = PySem.W.ksFn "__init__" qual params body scope .none kV doc pm an (.ref cda) ct cc
  lk : ∃ oc od osl, K.lookup f = some ⟨oc, od, .func fd, osl⟩
  code : PySem.W.codeIn K (.ref cda) qual = true
  file : ∃ ccl cdd vs ccs fl tf, K.lookup cda = some ⟨ccl, cdd, .fields vs, ccs⟩ ∧ vs[2]? = some (.str fl tf) ∧ ((P.main.file : Str) == fl) = true
  cell : ∃ cl cld csl, K.lookup cc = some ⟨cl, cld, .cell (some (.ref C)), csl⟩
  cls : ∃ cd, PySem.W.clsIn K C = some cd ∧ PySem.W.alongIn K "__init__" ((cd.mro.dropWhile (· != .ref C)).drop 1) = some (some (.builtin "ValueError.__init__"))
  self : PySem.W.mroIn K C (.ref C) = some true
  ve : PySem.W.subIn K (.ref C) (.type "ValueError") = some true
  opq : PySem.W.nsIn K PySem.cStatics "thirdparty.any" = some none
  sup : mg "super" = none
  top : (P.main.scope.names.lookup ("super" : Str)).isSome = false

/-- .. of its text -/
structure ExT (par : Str) (params : Arguments) (scope : Scope) : Prop where
  arg : ∃ ar, (params.posonlyargs ++ params.args).head? = some ar ∧ ar.arg = "self"
  kind : scope.kind = .function
  co : scope.isCoroutine = false
  gen : scope.isGenerator = false
  nd : ("self" : Str) ≠ par
  sup : scope.names.lookup ("super" : Str) = some .globalImplicit
  clsn : scope.names.lookup ("__class__" : Str) = some .free
  s : scope.names.lookup ("self" : Str) = some .local
  p : scope.names.lookup par = some .local
  free : ∀ y ∈ scope.names, y.2 = .free → y.1 = "__class__"
  cell : ∀ y ∈ scope.names, y.2 ≠ .cell

section
variable {P : Program} {w : World} {K : PySem.W.Frag} {mg : Str → Option Value} {base : Heap} {C f cc cda : Addr} {qual par : Str} {params : Arguments} {body : List Stmt} {scope : Scope} {fd : FuncData} {A : Around} {outer : List Env} {s : Shared} {H : Hp}
theorem inv_startE (S : ExT par params scope) (D : ExD P K mg C f cc cda qual params body scope fd) (hd : A.handled = none) (e0 : Env0 P w K mg base A outer s H) {u0 u1 : Value} {v0 v1 : V} (r0 : RelV v0 u0) (r1 : RelV v1 u1) {h1 : Heap} {tk : Nat}
    (hns : h1.Ns s.heap.objs.size (fun x => ([(("self" : Str), u0), (par, u1)] : List (Str × Value)).reverse.lookup x)) (hk : ∀ b o, s.heap.get? b = some o → h1.get? b = some o) :
    Inv (cxE P w K mg base par qual scope f cc (.ref cda) A outer s H) [] [some v0, some v1] H { s with heap := h1, toks := tk } := by
  obtain ⟨cl, cld, csl, hcc⟩ := D.cell
  have hcb := e0.mod.kin _ _ hcc
  have hcs := e0.bs _ _ hcb
  have lkc : ∀ x c, (([(("__class__" : Str), cc)] : List (Str × Addr)).lookup x = some c) → x = "__class__" ∧ c = cc := fun x c e => by
    rw [List.lookup_cons] at e
    split at e
    · rename_i hx
      cases e
      exact ⟨beq_iff_eq.mp hx, rfl⟩
    · cases e
  have noA : ∀ b : Addr, b ∉ ([] : List Addr) := fun b z => absurd z (by simp)
  refine ⟨⟨e0.mod, S.kind, rfl, rfl, Nat.le_refl _, fun y z c h1 h2 => ?_, fun y hy => ?_, fun y c hf h => ?_, fun _ => hd, Around.frames_deeper e0.frames, .inr ⟨rfl, rfl⟩, fun b z => absurd z (noA b), e0.bs, e0.bsz, fun b _ _ => noA b, fun b z => absurd z (noA b), e0.funs, e0.frf⟩,
    rfl, e0.bare, Un.kept hk, ⟨_, hns, fun i y v h1 h2 h3 => ?_⟩, fun y c h => ?_, e0.hok.fresh (Nat.le_refl _), fun y c h => ?_, fun p hp => absurd (show p ∈ ([] : List (Addr × Obj)) from hp) (by simp), e0.hok.kept hk, rfl⟩
  · rw [(lkc _ _ h1).1, (lkc _ _ h2).1]
  · have hy : scope.names.lookup y = some .cell ∨ scope.names.lookup y = some .free := hy
    rcases hy with hy | hy
    · exact absurd rfl (S.cell _ (PySem.mem_of_lookup hy))
    · have e := S.free _ (PySem.mem_of_lookup hy) rfl
      have e : y = "__class__" := e
      subst e
      exact ⟨cc, by show ([(("__class__" : Str), cc)] : List (Str × Addr)).lookup _ = _; rw [List.lookup_cons_self]⟩
  · have e := (lkc _ _ h).1
    subst e
    have hf : (!(("__class__" : Str) == ("__class__" : Str))) = true := hf
    rw [beq_self_eq_true] at hf
    cases hf
  · match i, h1, h2 with
    | 0, h1, h2 =>
      cases h1
      cases h2
      refine ⟨u0, r0, .inl ⟨S.s, ?_⟩⟩
      show ([(par, u1), (("self" : Str), u0)] : List (Str × Value)).lookup ("self" : Str) = some u0
      rw [List.lookup_cons, show (("self" : Str) == par) = false from beq_eq_false_iff_ne.mpr S.nd]
      exact List.lookup_cons_self
    | 1, h1, h2 =>
      cases h1
      cases h2
      refine ⟨u1, r1, .inl ⟨S.p, ?_⟩⟩
      show ([(par, u1), (("self" : Str), u0)] : List (Str × Value)).lookup par = some u1
      exact List.lookup_cons_self
    | i + 2, h1, h2 => cases h1
  · obtain ⟨_, rfl⟩ := lkc _ _ h
    exact ⟨_, _, hk _ _ hcs.1, rfl⟩
  · obtain ⟨_, rfl⟩ := lkc _ _ h
    exact hcs.2

/-- its promise: the exception at a gets a dict with that one attribute -/
def spExc (C : Addr) (attr : Str) : Sp := fun vs H Q _ => ∃ a y, vs = [.ref a, y] ∧ H a = some (exo a C none) ∧ ∀ dx, H dx = none → dx ≠ a → Q .non (upd (upd H dx (exd dx [(attr, y)])) a (exo a C (some dx)))
theorem fn_exc {CX : CXT} {k : Nat} {attr msg : Str} {j : Nat} {p0 p1 p2 p3 p4 p5 p6 p7 p8 p9 : Pos} (S : ExT par params scope) (D : ExD P K mg C f cc cda qual params body scope fd)
    (hb : body = [.Expr (.Call (.Attribute (.Call (.Name "super" p0) [] [] p1) "__init__" p2) [.Constant (.str msg) j p3] [] p4) p5, .Assign [.Attribute (.Name "self" p6) attr p7] (.Name par p8) p9])
    (hno : PySem.W.findIn K (.ref C) attr = some none) (hdp : (par == ("__debug__" : Str)) = false) (hcp : (par == ("__classdict__" : Str)) = false)
    (hev : ∀ env : Env, ∃ pl : Sem Bool, eval (.Call (.Attribute (.Call (.Name "super" p0) [] [] p1) "__init__" p2) [.Constant (.str msg) j p3] [] p4) env = (do
      let ov ← attributeBase (.Call (.Name "super" p0) [] [] p1) "__init__" env (eval (.Call (.Name "super" p0) [] [] p1) env)
      standAt p2.atName
      let (f, first) ← holding [ov] (getMethod ov "__init__" pl)
      callWith p4 f first (backTo p4 (starEach [.Constant (.str msg) j p3] env)) []))
    (hsw : ∀ env, swapsWith (.Name par p8) (some (.Attribute (.Name "self" p6) attr p7)) p9.line env = pure false) :
    FnOk P w K mg base CX (k + 1) f fd ["self", par] (spExc C attr) := by
  refine ⟨fun vs H Q E h => ?_, fun A outer s H args us vs Q E hr e0 hbind r hsp => ?_⟩
  · obtain ⟨a, y, rfl, _⟩ := h
    rfl
  obtain ⟨a, y, rfl, ha, q⟩ := hsp
  obtain ⟨u1, rfl⟩ : ∃ u1, us = [.ref a, u1] := by
    match us, r with
    | [_, u1], .cons r0 (.cons _ .nil) => cases r0; exact ⟨u1, rfl⟩
  have r1 : RelV y u1 := by
    cases r with
    | cons _ rr => cases rr with
      | cons r1 _ => exact r1
  obtain ⟨oc, od, osl, lk⟩ := D.lk
  have KX : K.In s.heap := e0.mod.kin.keeps fun b o e => (e0.bs b o e).1
  have lim : s.heap.NoLimit := e0.mod.nolimit.keeps fun b o e => (e0.bs b o e).1
  obtain ⟨kV, doc, pm, an, ct, hfd⟩ := D.fdat
  subst hfd
  refine PySem.ks_codeAny_call_defAt (fd := PySem.W.ksFn "__init__" qual params body scope .none kV doc pm an (.ref cda) ct cc) (body := body) (binds := [("self", .ref a), (par, u1)]) hr.depth (KX _ _ lk) rfl lim (PySem.W.codeRec_of KX D.code) rfl hbind S.cell ?_ (fun h1 hns hk => ?_) S.co S.gen S.kind
  · intro x hx
    rcases List.mem_cons.mp hx with rfl | hx
    · exact S.s
    · rw [List.mem_singleton.mp hx]; exact S.p
  have I := inv_startE (tk := s.toks + 2) S D hr.hd e0 (u0 := .ref a) (v0 := .ref a) rfl r1 hns hk
  show PySem.wpAt (model P w) (cxE P w K mg base par qual scope f cc (.ref cda) A outer s H).A (.func body (cxE P w K mg base par qual scope f cc (.ref cda) A outer s H).env) (execs body (cxE P w K mg base par qual scope f cc (.ref cda) A outer s H).env) _ _ { s with heap := h1, toks := s.toks + 2 }
  -- the rest, from any state behind the first row
  have rest : ∀ s5, Inv (cxE P w K mg base par qual scope f cc (.ref cda) A outer s H) [] [some (.ref a), some y] H s5 → wpAny (model P w) (cxE P w K mg base par qual scope f cc (.ref cda) A outer s H).A (execs [.Assign [.Attribute (.Name "self" p6) attr p7] (.Name par p8) p9] (cxE P w K mg base par qual scope f cc (.ref cda) A outer s H).env)
      (fun fl s' => CR CX outer P w H s Q E (.ok (.ret (match fl with | .ret v => v | _ => .none))) s') (fun _ _ => False) s5 := fun s5 J => by
    have ps : PSs (cxE P w K mg base par qual scope f cc (.ref cda) A outer s H) [.Assign [.Attribute (.Name "self" p6) attr p7] (.Name par p8) p9] (tOst K attr (tVar 0) (tVar 1)) :=
      pss_one (ps_ost (pe_var (i := 0) rfl (.inl S.s)) (pe_var (i := 1) rfl (.inl S.p) hdp hcp) (hsw _))
    refine wpAny_mono (ps.run [] s5 [some (.ref a), some y] H { nx := fun _ H' => Q .non H', rt := fun _ _ => False, bk := fun _ _ => False, ct := fun _ _ => False } J ⟨y, rfl, .ref a, rfl, a, C, rfl, D.T, hno, .inl ⟨ha, fun dx n1 n2 => q dx n1 n2⟩⟩) (fun fl s' hs => ?_) fun _ _ z => z
    cases fl with
    | next =>
      obtain ⟨σ', H', J', q'⟩ := hs
      exact ⟨.non, H', J'.os, J'.bare, J'.base, J'.hok, rfl, q'⟩
    | ret u => obtain ⟨_, _, _, _, _, z⟩ := hs; exact z.elim
    | brk => obtain ⟨_, _, _, z⟩ := hs; exact z.elim
    | cont => obtain ⟨_, _, _, z⟩ := hs; exact z.elim
  obtain ⟨ar, har, hself⟩ := S.arg
  obtain ⟨ccl, cdd, vs, ccs, fl, tf, hcode, hvs, hfile⟩ := D.file
  obtain ⟨cl, cld, csl, hcell⟩ := D.cell
  obtain ⟨cd, hcd, halong⟩ := D.cls
  obtain ⟨mb, b1, b2⟩ := e0.mod.blt
  have K1 : K.In h1 := KX.keeps hk
  obtain ⟨oC, hC1, hC2⟩ : ∃ oC, h1.get? C = some oC ∧ oC.data = .cls cd := by
    unfold PySem.W.clsIn at hcd
    split at hcd
    · rename_i c d' cd' sl ho
      cases hcd
      exact ⟨_, K1 _ _ ho, rfl⟩
    · cases hcd
  obtain ⟨t0, hx⟩ := exo_at I.hok ha
  have hx : h1.get? a = some ({ cls := .ref C, dict := none, data := .fields #[.ref t0, .none, .none, .none, .bool false, .none] } : Obj) := hx
  subst hb
  have hnc : ∀ c, ({ cls := .ref C, dict := none, data := .fields #[.ref t0, .none, .none, .none, .bool false, .none] } : Obj).data ≠ .cls c := fun c z => nomatch z
  obtain ⟨pl, hpl⟩ := hev (cxE P w K mg base par qual scope f cc (.ref cda) A outer s H).env
  refine ks_wpAt_execs_cons (ks_wpAt_Expr_any (ks_wpAt_MethodCall (pl := pl) (ks_wpAt_super_base (f := f) (cc := cda) S.sup S.clsn (by decide) rfl (K1 _ _ lk) rfl har rfl (K1 _ _ hcode) rfl hvs hfile D.top ?_) hpl) I.quiet)
  refine PySem.W.ks_loadName_global S.kind S.sup (Calls.loadGlobal_builtin (e0.mod.glob.keeps I.bk) D.sup (b1.keeps I.bk) ((b2 "super" (by decide)).trans (by rfl)) ⟨rfl, ?_⟩)
  refine wpAny_loadName_free (c := cc) S.kind S.clsn rfl ⟨_, K1 _ _ hcell, rfl⟩ ?_
  rw [hself]
  refine wpAny_loadName_local S.kind S.s hns (v := .ref a) ?_ ?_
  · show ([(par, u1), (("self" : Str), Value.ref a)] : List (Str × Value)).lookup ("self" : Str) = some (.ref a)
    rw [List.lookup_cons, show (("self" : Str) == par) = false from beq_eq_false_iff_ne.mpr S.nd]
    exact List.lookup_cons_self
  refine ks_wpAny_isType_cls hC1 hC2 ⟨rfl, ?_⟩
  refine ks_wpAny_call_super hC1 hC2 hx rfl hnc (PySem.W.looks_mroIn K1 D.self) (fun h2 e2 k2 => ?_)
  have K2 : K.In h2 := K1.keeps k2
  have I2 := I.kept (t' := s.toks + 2) k2
  have hx2 := k2 _ _ hx
  have hI : PySem.W.Looks (model P w) h2 (isInstance (.ref a) (.type "ValueError")) true := (show PySem.W.InstAt h2 a _ C none from ⟨hx2, rfl, rfl, trivial⟩).type.andThen (PySem.W.looks_subIn K2 D.ve)
  have hxC : a ≠ C := fun z => by
    rw [z, hC1] at hx
    cases hx
    cases hC2
  refine PySem.W.kxs_getMethod PySem.W.kxs_ValueError e2 (PySem.W.looks_opaque K2 D.opq) (l₀ := cd.mro) (fun A Q E s k q => wpAny_bind ((PySem.W.looks_clsIn K2 hcd) A _ E s k (wpAny_pure q))) rfl K2 halong hI hxC (by decide) ?_
  have I3 := I2.kept (t' := s.toks + 2 + 1) (h' := h2.push (PySem.W.kxs_mw "ValueError.__init__" a)) fun b o e => Heap.get?_push_of_some _ e
  have hmw : (h2.push (PySem.W.kxs_mw "ValueError.__init__" a)).get? h2.objs.size = some (PySem.W.kxs_mw "ValueError.__init__" a) := Heap.get?_push_size _ rfl
  have I4 := I3.pins_of (pins' := [(h2.objs.size, PySem.W.kxs_mw "ValueError.__init__" a)]) fun p hp => by
    rw [List.mem_singleton.mp hp]
    exact ⟨hmw, I2.hok.fresh (Nat.le_refl _), Nat.ne_of_gt I2.lt, I2.nofs (Nat.le_refl _), fun v z => nomatch z⟩
  have hst : starEach [.Constant (.str msg) j p3] (cxE P w K mg base par qual scope f cc (.ref cda) A outer s H).env = (false, eval (.Constant (.str msg) j p3) (cxE P w K mg base par qual scope f cc (.ref cda) A outer s H).env) :: starEach [] (cxE P w K mg base par qual scope f cc (.ref cda) A outer s H).env := by rfl
  have pa : PA (cxE P w K mg base par qual scope f cc (.ref cda) A outer s H) [.Constant (.str msg) j p3] (tCons (tC (.str msg)) tNil) := pa_cons pe_str pa_nil
  have run := pa.run p4 _ _ _ _ (fun vs H1 => vs = [.str msg] ∧ H1 = H) I4 ⟨rfl, rfl⟩
  rw [hst] at run ⊢
  refine PySem.W.kxs_callWith (i := "ValueError.__init__") (x := a) (by rfl) ?_
  refine Calls.evalArgs_plain ?_
  refine wpAny_mono run (fun us s3 z => ?_) fun _ _ z => z.elim
  obtain ⟨vs3, H3, I5, r3, rfl, rfl⟩ := z
  have hpin := I5.pin _ (List.mem_append_right _ (List.mem_singleton.mpr rfl))
  refine ⟨hpin.1, ?_⟩
  obtain ⟨nm, q', N, bs, bm, sn, sub, ab, col, dd, k0, k1, k2', k3, k5, hCo, hbm⟩ := D.T.cls
  obtain ⟨t1, hx3⟩ := exo_at I5.hok ha
  have K5 : K.In s3.heap := I5.kIn
  obtain ⟨hp, g, d, t, os⟩ := s3
  have hlen : us.length ≤ sizeLine := by
    rw [← Paired.length r3]
    show 1 ≤ sizeLine
    decide
  refine call_bwV (K5 _ _ hCo) hx3 hpin.1 hlen fun h' t2 kk hx' => ?_
  have J := I5.write (t' := t) (x := a) (e := a) (o := exo a C none) (by rw [ha]; exact True.intro) (.inl rfl) kk ⟨_, hx'⟩ (exo_ok hx')
  have eu : upd H3 a (exo a C none) = H3 := by
    funext b
    by_cases hb : b = a
    · rw [hb, upd_same, ha]
    · rw [upd_ne hb]
  rw [eu] at J
  exact wpAt_of_wpAny (wpAny_mono (rest _ (J.pins_of (pins' := []) fun p hp => nomatch hp)) (fun _ _ z => z) fun _ _ z => z.elim)
end
end WW

set_option Elab.async false
set_option linter.all false
set_option maxRecDepth 100000
set_option maxHeartbeats 4000000
/-! A head's facts of own exceptions whose __init__ says super(). -/
namespace WW
open PySem PySem.Spec PyProof.Rows L2 He
def oexB (K : PySem.W.Frag) (C : Addr) : Bool := (match K.lookup C with
  | some ⟨.type "type", _, .cls cd, sl⟩ => (match cd.mro, sl.toList with
    | .ref C' :: bm, [_, _, _, _, some (.builtin n), _] => decide (C' = C) && (decide (n = "ValueError.__new__") && (!cd.hasDel && (cd.hasDict && PySem.HandSPX.refsVE bm)))
    | _, _ => false)
  | _ => false) && (eqO (PySem.W.findIn K (.ref C) "__setattr__") (some (some (.builtin "object.__setattr__"))) && (decide (PySem.W.subIn K (.ref C) (.type "BaseException") = some true) && (decide (PySem.W.typeIn K (.ref C) = some (.type "type")) && PySem.W.keepIn K (.ref C))))
theorem oexB_ok {K : PySem.W.Frag} {C : Addr} (h : oexB K C = true) : OexC K C := by
  obtain ⟨q, h⟩ := ba h
  obtain ⟨h2, h⟩ := ba h
  obtain ⟨h3, h⟩ := ba h
  obtain ⟨h4, h5⟩ := ba h
  refine ⟨?_, eqO_ok h2, of_decide_eq_true h3, of_decide_eq_true h4, h5⟩
  split at q
  · rename_i dd cd sl ho
    split at q
    · rename_i C' bm k0 k1 k2 k3 n k5 hm hs
      simp only [Bool.and_eq_true, decide_eq_true_eq, Bool.not_eq_true'] at q
      obtain ⟨rfl, rfl, hdel, hdict, ht⟩ := q
      obtain ⟨nm, bs, mro, ns, qn, hd, sn, sub, ab, col, del⟩ := cd
      dsimp only at hm hdel hdict
      subst hm hdel hdict
      have hsl : sl = #[k0, k1, k2, k3, some (.builtin "ValueError.__new__"), k5] := by
        obtain ⟨l⟩ := sl
        simp only at hs
        rw [hs]
      subst hsl
      exact ⟨nm, qn, ns, bs, bm, sn, sub, ab, col, dd, k0, k1, k2, k3, k5, ho, ht⟩
    · cases q
  · cases q

abbrev FnE : Type := Option (Str × Str × Arguments × FuncBody × Scope × Addr × List Str × Addr)
def fnE (K : PySem.W.Frag) (a : Addr) : FnE := match K.lookup a with
  | some ⟨_, _, .func fd, _⟩ => some (fd.name, fd.qualname, fd.params, fd.body, fd.scope, fd.globals, fd.closure.map (·.1), fd.builtins)
  | _ => none
structure DefE where
  cls : Str
  qual : Str
  params : Arguments
  body : List Stmt
  scope : Scope
def DefE.val (d : DefE) : FnE := some ("__init__", d.qual, d.params, .stmts d.body, d.scope, mainGlobals, ["__class__"], builtinsNs)
def exI (K : PySem.W.Frag) (x : Str) : Addr := ma K (ga K x) "__init__"
def exCda (K : PySem.W.Frag) (x : Str) : Addr := match K.lookup (exI K x) with
  | some ⟨_, _, .func fd, _⟩ => (match fd.code with
    | .ref c => c
    | _ => 0)
  | _ => 0
def exCc (K : PySem.W.Frag) (x : Str) : Addr := match K.lookup (exI K x) with
  | some ⟨_, _, .func fd, _⟩ => (match fd.closure with
    | [(_, c)] => c
    | _ => 0)
  | _ => 0
def exdB (file : Str) (K : PySem.W.Frag) (d : DefE) : Bool := oexB K (ga K d.cls) && (PySem.W.codeIn K (.ref (exCda K d.cls)) d.qual && ((match K.lookup (exCda K d.cls) with
    | some ⟨_, _, .fields vs, _⟩ => (match (vs[2]? : Option Value) with
      | some (.str fl _) => file == fl
      | _ => false)
    | _ => false) && ((match K.lookup (exCc K d.cls) with
    | some ⟨_, _, .cell (some (.ref D)), _⟩ => decide (D = ga K d.cls)
    | _ => false) && ((match PySem.W.clsIn K (ga K d.cls) with
    | some cd => eqO (PySem.W.alongIn K "__init__" ((cd.mro.dropWhile (· != .ref (ga K d.cls))).drop 1)) (some (some (.builtin "ValueError.__init__")))
    | none => false) && (decide (PySem.W.mroIn K (ga K d.cls) (.ref (ga K d.cls)) = some true) && (decide (PySem.W.subIn K (.ref (ga K d.cls)) (.type "ValueError") = some true) && (eqO (PySem.W.nsIn K PySem.cStatics "thirdparty.any") (some none) && ((match K.lookup (exI K d.cls) with
    | some ⟨_, _, .func fd, _⟩ => decide (fd.code = .ref (exCda K d.cls)) && decide (fd.defaults = .none)
    | _ => false) && (eqO (PySem.W.findIn K (.ref (ga K d.cls)) "__init__") (some (some (.ref (exI K d.cls)))) && decide (PySem.W.typeIn K (.ref (exI K d.cls)) = some (.type "function")))))))))))
theorem exdB_ok {P : Program} {K : PySem.W.Frag} {mg : Str → Option Value} {d : DefE} (h : exdB P.main.file K d = true) (e : fnE K (exI K d.cls) = d.val) (hs : mg "super" = none) (ht : (P.main.scope.names.lookup ("super" : Str)).isSome = false) :
    ∃ fd, ExD P K mg (ga K d.cls) (exI K d.cls) (exCc K d.cls) (exCda K d.cls) d.qual d.params d.body d.scope fd ∧ PySem.W.findIn K (.ref (ga K d.cls)) "__init__" = some (some (.ref (exI K d.cls))) ∧ PySem.W.typeIn K (.ref (exI K d.cls)) = some (.type "function") := by
  obtain ⟨h1, h⟩ := ba h
  obtain ⟨h2, h⟩ := ba h
  obtain ⟨h3, h⟩ := ba h
  obtain ⟨h4, h⟩ := ba h
  obtain ⟨h5, h⟩ := ba h
  obtain ⟨h6, h⟩ := ba h
  obtain ⟨h7, h⟩ := ba h
  obtain ⟨h8, h⟩ := ba h
  obtain ⟨h9, h⟩ := ba h
  obtain ⟨h10, h11⟩ := ba h
  have hcc : exCc K d.cls = (match K.lookup (exI K d.cls) with
    | some ⟨_, _, .func fd, _⟩ => (match fd.closure with
      | [(_, c)] => c
      | _ => 0)
    | _ => 0) := rfl
  cases q : K.lookup (exI K d.cls) with
  | none => rw [q] at h9; cases h9
  | some o =>
    obtain ⟨oc, od, dt, osl⟩ := o
    rw [q] at h9 hcc
    unfold fnE at e
    rw [q] at e
    cases dt with
    | func fd =>
      obtain ⟨n1, n2, n3, n4, n5, n6, n7, n8, n9, n10, n11, n12, n13, n14, n15⟩ := fd
      have e2 : (some (n1, n2, n3, n4, n5, n6, n7.map (·.1), n15) : FnE) = some (("__init__" : Str), d.qual, d.params, FuncBody.stmts d.body, d.scope, mainGlobals, [("__class__" : Str)], builtinsNs) := e
      simp only [Option.some.injEq, Prod.mk.injEq] at e2
      obtain ⟨e1, e2, e3, e4, e5, e6, e7, e8⟩ := e2
      obtain ⟨g1, g2⟩ := ba h9
      have g3 : n13 = .ref (exCda K d.cls) := of_decide_eq_true g1
      have g4 : n8 = .none := of_decide_eq_true g2
      match n7, e7, hcc with
      | [(x, c)], e7, hcc =>
        have ex : x = "__class__" := by simpa using e7
        have hc2 : exCc K d.cls = c := hcc
        subst ex
        rw [← hc2] at q
        refine ⟨_, ⟨oexB_ok h1, ⟨n9, n10, n11, n12, n14, rfl⟩, ⟨oc, od, osl, ?_⟩, h2, ?_, ?_, ?_, of_decide_eq_true h6, of_decide_eq_true h7, eqO_ok h8, hs, ht⟩, eqO_ok h10, of_decide_eq_true h11⟩
        · rw [q, e1, e2, e3, e4, e5, e6, e8, g3, g4]
        · cases z : K.lookup (exCda K d.cls) with
          | none => rw [z] at h3; cases h3
          | some o3 =>
            obtain ⟨a1, a2, a3, a4⟩ := o3
            rw [z] at h3
            cases a3 with
            | fields vs =>
              have h3 : (match (vs[2]? : Option Value) with
                | some (.str fl _) => P.main.file == fl
                | _ => false) = true := h3
              split at h3
              · rename_i fl tf hv
                exact ⟨_, _, vs, _, fl, tf, rfl, hv, h3⟩
              · cases h3
            | _ => cases h3
        · cases z : K.lookup (exCc K d.cls) with
          | none => rw [z] at h4; cases h4
          | some o4 =>
            rw [z] at h4
            split at h4
            · rename_i D a4 hq
              cases hq
              have hD := of_decide_eq_true h4
              subst hD
              exact ⟨_, _, _, rfl⟩
            · cases h4
        · cases z : PySem.W.clsIn K (ga K d.cls) with
          | none => rw [z] at h5; cases h5
          | some cd =>
            rw [z] at h5
            exact ⟨cd, rfl, eqO_ok h5⟩
      | [], e7, _ => cases e7
      | _ :: _ :: _, e7, _ => exact absurd (congrArg List.length e7) (by simp)
    | _ => cases h9
end WW

set_option Elab.async false
set_option linter.all false
set_option maxRecDepth 100000
set_option maxHeartbeats 4000000
/-! isinstance of a caught exception that has a dict of its own. -/
namespace WW
open PySem PySem.Spec PyProof.Rows L2
/-- isinstance(e, c), e the exception that the suite holds at a, of the class cls, with the dict d -/
def rIsED (K : PySem.W.Frag) (a : Addr) (cls : Value) (d : Option Addr) : List V → Hp → VK → Prop := fun xs H Q => ∃ (D dd : Addr) (fs : List (Str × V)), cls = .ref D ∧ d = some dd ∧ H dd = some (.xd fs) ∧ ExcC K D ∧ rIsE K D a xs H Q
theorem call_isED {X : Cx} {a : Addr} {cls : Value} {d : Option Addr} {oe : Obj} {pn : List (Addr × Obj)} (hz : Zc cls d oe) (hf : ∃ vs, oe.data = .fields vs) : CallR (X.suite a ((a, oe) :: pn)) (.builtin "isinstance") (rIsED X.K a cls d) := by
  intro pins s σ H xs us Q I r h
  obtain ⟨D, dd, fs, rfl, rfl, hx, C, c, cv, b, rfl, hcv, e, q⟩ := h
  match us, r with
  | [_, t], .cons rx (.cons rt .nil) =>
    cases rx
    have ec := hcv _ rt
    subst ec
    obtain ⟨hget, _⟩ := I.pin (a, oe) (List.mem_append_left _ List.mem_cons_self)
    obtain ⟨vs, hv⟩ := hf
    obtain ⟨mA, hns, _⟩ := (show ObjOk X.prog X.w H s.heap dd (.xd fs) from I.hok dd _ hx)
    obtain ⟨od, ho, _⟩ := lookIn_ns hns
    have J : PySem.W.InstAt s.heap a oe D (some od) := ⟨hget, hz.1, by unfold PySem.W.notCls; rw [hv] <;> rfl, by rw [hz.2]; exact ho⟩
    have cl : (PySem.W.clsIn X.K D).isSome = true := by
      obtain ⟨cd, hc, _⟩ := PySem.W.any_some C.hd
      rw [hc]
      rfl
    exact PySem.W.kia_one (PySem.W.kitx_exc cl C.hg C.hk C.hs C.ha C.hn C.ht C.hm) I.kIn J e (fun z => nomatch z) fun tk => ⟨.bl b, H, I.kept (t' := tk) fun _ _ z => z, rfl, q⟩
end WW

set_option Elab.async false
set_option linter.all false
set_option maxRecDepth 100000
set_option maxHeartbeats 4000000
/-! raise of an own exception made with one argument that it keeps. -/
namespace WW
open PySem PySem.Spec PyProof.Rows L2
/-- the class x of the module's names can be raised with one argument, which it keeps as attr -/
structure ExR (P : Program) (w : World) (K : PySem.W.Frag) (mg : Str → Option Value) (base : Heap) (k : Nat) (x : Str) (C : Addr) (attr : Str) : Prop where
  T : OexC K C
  ini : ∃ fI fd par, PySem.W.findIn K (.ref C) "__init__" = some (some (.ref fI)) ∧ PySem.W.typeIn K (.ref fI) = some (.type "function") ∧ FnOk P w K mg base CXn k fI fd ["self", par] (spExc C attr) ∧ Binds K fd ["self", par] []
  g : mg x = some (.ref C)
/-- raise x(e) -/
def tRaiseE (C : Addr) (attr : Str) (W : WX) (te : TE) : TS := fun _ σ H => tMkO C (spExc C attr) [] (tCons te tNil) σ H fun cls d H' => W cls d σ H'
theorem ps_raiseE {X : Cx} {W : WX} {k : Nat} {x : Str} {C : Addr} {attr : Str} {e : Expr} {te : TE} {p pos pos2 : Pos} (D : ExR X.prog X.w X.K X.mg X.base k x C attr) (hc : X.calm = true) (hr : Room (k + 1) X.A) (tk : Takes X W) (hg : Gl X x) (he : PE X e te)
    (hdb : (x == ("__debug__" : Str)) = false := by decide) (hs : starEach [e] X.env = (false, eval e X.env) :: starEach [] X.env := by rfl) (hpl : (backTo pos (starEach [] X.env)).any (·.1) = false := by rfl) :
    PS X (.Raise (some (.Call (.Name x p) [e] [] pos)) none pos2) (tRaiseE C attr W te) := by
  obtain ⟨fI, fd, par, h1, h2, h3, h4⟩ := D.ini
  exact ps_raise hc tk (pmk_oex D.T h1 h2 h3 hr h4 .nil (fun _ _ _ _ _ _ _ h => h.elim) hg D.g (pa_cons he pa_nil hs) hdb hs hpl)
theorem raise_go {C : Addr} {attr : Str} {y : V} {H1 : Hp} {Q : XK} (h : ∀ d, H1 d = none → Q (.ref C) (some d) (upd H1 d (.xd [(attr, y)]))) :
    [y].length ≤ 1000 ∧ ∀ a, H1 a = none → spExc C attr (.ref a :: ([y] ++ [])) (upd H1 a (exo a C none)) (fun v H2 => v = .non ∧ ∃ (d : Addr) (fs : List (Str × V)), H2 a = some (exo a C (some d)) ∧ H2 d = some (exd d fs) ∧ H1 d = none ∧ Q (.ref C) (some d) (upd (del H2 a) d (.xd fs))) (fun _ _ _ => False) := by
  refine ⟨show 1 ≤ 1000 by decide, fun a ha => ⟨a, y, rfl, upd_same, fun dx hd hne => ⟨rfl, dx, [(attr, y)], upd_same, ?_, ?_, ?_⟩⟩⟩
  · rw [upd_ne hne, upd_same]
  · rw [upd_ne hne] at hd; exact hd
  · have e : upd (del (upd (upd (upd H1 a (exo a C none)) dx (exd dx [(attr, y)])) a (exo a C (some dx))) a) dx (.xd [(attr, y)]) = upd H1 dx (.xd [(attr, y)]) := by
      funext b
      by_cases hb : b = dx
      · subst hb; rw [upd_same, upd_same]
      · rw [upd_ne hb, upd_ne hb]
        by_cases hc : b = a
        · subst hc; rw [del_same, ha]
        · rw [del_ne hc, upd_ne hc, upd_ne hb, upd_ne hc]
    rw [e]
    exact h dx (by rw [upd_ne hne] at hd; exact hd)
end WW

set_option Elab.async false
set_option linter.all false
set_option maxRecDepth 100000
set_option maxHeartbeats 4000000
/-! try with several clauses «except x as n». -/
namespace WW
open PySem PySem.Spec PyProof.Rows L2
abbrev Suite : Type := Addr → Value → Option Addr → TS
/-- the clauses' wishes of an exception, from the first on; a clause is (class, slot of its name, suite) -/
def wAsM (K : PySem.W.Frag) (Wout : WX) (D : Ends) : List (Value × Nat × Suite) → WX
  | [] => Wout
  | (c, i, ts) :: r => wAs K c i ts (wAsM K Wout D r) D
inductive HdsAs (X : Cx) : List ExceptHandler → List (Value × Nat × Suite) → Prop
  | done : HdsAs X [] []
  | clause {x n : Str} {c : Value} {i : Nat} {ts : Suite} {b : Stmt} {bs : List Stmt} {p q : Pos} {hds : List ExceptHandler} {l : List (Value × Nat × Suite)} (hc : Names X x c) (hi : X.N[i]? = some n) (hk : X.env.kindOf n = some .local)
      (body : ∀ (a : Addr) (oe : Obj) (cls : Value) (d : Option Addr) (pn : List (Addr × Obj)), Zc cls d oe → (∃ vs, oe.data = .fields vs) → PSs (X.suite a ((a, oe) :: pn)) (b :: bs) (ts a cls d)) (more : HdsAs X hds l) :
      HdsAs X (.ExceptHandler (some (.Name x p)) (some n) (b :: bs) q :: hds) ((c, i, ts) :: l)
/-- the exception a has come to the clauses -/
structure Came (X : Cx) (pins : List (Addr × Obj)) (σ : L2.St) (H : Hp) (B : Heap) (a : Addr) (cls : Value) (d : Option Addr) (s : Shared) : Prop where
  fly : PySem.HandSPX.FlyingZ B (X.env :: X.outer) a (Zc cls d) s.heap
  inv : ∀ h, PySem.HandSPX.FlyingZ B (X.env :: X.outer) a (Zc cls d) h → s.heap.UpToSlots h → Inv X pins σ H { s with heap := h }
  na : H a = none
  nL : a ≠ X.env.locals
  nF : a ∉ X.fs
section
variable {X : Cx} {pins : List (Addr × Obj)} {σ : L2.St} {H : Hp} {B : Heap} {a : Addr} {cls : Value} {d : Option Addr} {s : Shared} {D : Ends} {Wout : WX}
/-- with the exception pinned, as the suite sees it -/
theorem Came.suite (Z : Came X pins σ H B a cls d s) {h : Heap} (f : PySem.HandSPX.FlyingZ B (X.env :: X.outer) a (Zc cls d) h) (u : s.heap.UpToSlots h) :
    ∃ oe, Zc cls d oe ∧ (∃ vs, oe.data = .fields vs) ∧ h.get? a = some oe ∧ Inv (X.suite a ((a, oe) :: (X.pn ++ pins))) [] σ H { s with heap := h } := by
  obtain ⟨oe, vs, e, z, dt⟩ := f.there
  exact ⟨oe, z, ⟨vs, dt⟩, e, (Z.inv h f u).suite e dt Z.na Z.nL Z.nF⟩
/-- no clause takes it -/
theorem Came.pass (Z : Came X pins σ H B a cls d s) (hf : X.env.frame = some X.env.locals) (out : ∀ h, PySem.HandSPX.HeldZ B (X.env :: X.outer) a (Zc cls d) X.env.locals h → s.heap.UpToSlots h → X.xe (.ref a) { s with heap := h }) :
    wpAny (model X.prog X.w) X.A (handleBy (.ref a) X.env []) (SP X pins D) X.xe s := by
  refine wpAny_handleBy_nil ?_
  have up : wpAny (model X.prog X.w) X.A (setFlight (.ref a) X.env.frame) (fun _ t => wpAny (model X.prog X.w) X.A (throw (.ref a) : Sem Flow) (SP X pins D) X.xe t) X.xe s := by
    rw [hf]
    exact PySem.HandSPX.setFlight_upZ Z.fly fun h hh u => wpAny_throw (out h hh u)
  obtain ⟨_, _, _, oe, vs, T, _, _, e, _, dt, v1, _⟩ := id Z.fly
  have nn : ¬ ((Value.ref T == Value.none) = true) := by simp
  unfold PySem.passOn
  refine wpAny_bind (wpAny_field e dt v1 ?_)
  rw [if_neg nn]
  first
    | exact wpAny_bind up
    | exact wpAny_bind (wpAny_pure (wpAny_bind up))
theorem Came.clauses (hN : X.N.Nodup) (ok : X.Ok) (hf : X.env.frame = some X.env.locals) : ∀ {hds : List ExceptHandler} {l : List (Value × Nat × Suite)}, HdsAs X hds l → Came X pins σ H B a cls d s →
    (Wout cls d σ H → ∀ h, PySem.HandSPX.HeldZ B (X.env :: X.outer) a (Zc cls d) X.env.locals h → s.heap.UpToSlots h → X.xe (.ref a) { s with heap := h }) → wAsM X.K Wout D l cls d σ H →
    wpAny (model X.prog X.w) X.A (handleBy (.ref a) X.env hds) (SP X pins D) X.xe s
  | _, _, .done, Z, out, w => Z.pass hf (out w)
  | _, _, .clause (x := x) (n := n) (c := c) (i := i) (ts := ts) (p := p) (q := q) hc hi hk body more, Z, out, w => by
    obtain ⟨yes, hm, wy, wn⟩ := w
    obtain ⟨oe, z, hd, e, S⟩ := Z.suite Z.fly (Heap.UpToSlots.refl _)
    have named : ∀ {R : Value → Shared → Prop} {F : Value → Shared → Prop}, R c s → wpAny (model X.prog X.w) (X.A.mark (some (.ref a))) (eval (.Name x p) X.env) R F s := fun {R F} r =>
      match hc with
      | ⟨g, nd, .inl m⟩ => ld_glob (X := X.suite a ((a, oe) :: (X.pn ++ pins))) S g m r nd
      | ⟨g, nd, .inr ⟨m, b, nn⟩⟩ => ld_blt (X := X.suite a ((a, oe) :: (X.pn ++ pins))) S g m b r nn nd
    have ofCls : PySem.W.Looks (model X.prog X.w) s.heap (typeOf (.ref a)) cls := fun _ _ _ _ k r => wpAny_typeOf_ref (k _ _ e) (by rw [z.1]; exact r)
    refine wpAny_handleBy_cons (codeAny_handlers_test (named ((PySem.W.exm_one (M := model X.prog X.w) S.kIn ofCls hm).here ?_))) (fun r => nomatch r)
    cases yes with
    | false => exact Came.clauses hN ok hf more Z out (wn rfl)
    | true =>
      refine codeAny_handlers_suite_as (PySem.HandSPX.lands_againZ Z.fly fun h f u => ?_)
      obtain ⟨ob, zb, hb, eb, Sb⟩ := Z.suite f u
      refine store_ok (X := X.suite a ((a, ob) :: (X.pn ++ pins))) (v := .ref a) Sb hN hi (.inl hk) rfl (fun t St => ?_) (.inr hk)
      refine wpAny_mono ((body a ob cls d (X.pn ++ pins) zb hb).run [] t _ H _ St (wy rfl a Z.na)) (fun fl t2 r => ?_) fun _ _ r => r.elim
      have gone : ∀ {σ2 : L2.St} {H2 : Hp} {R : Shared → Prop}, Inv (X.suite a ((a, ob) :: (X.pn ++ pins))) [] σ2 H2 t2 → (∀ t3, Inv X pins (σ2.set i none) H2 t3 → R t3) →
          wpAny (model X.prog X.w) X.A (do bindName X.env n .none; unbindBehindTheSuite X.env n q) (fun _ t3 => R t3) X.xe t2 := fun I2 k => gone_ok (I2.unsuite ok) hN hi hk k
      cases fl with
      | ret u =>
        obtain ⟨v2, σ2, H2, I2, rv, k⟩ := r
        exact gone I2 fun _ J => ⟨v2, _, H2, J, rv, k⟩
      | next =>
        obtain ⟨σ2, H2, I2, k⟩ := r
        exact gone I2 fun _ J => ⟨_, H2, J, k⟩
      | brk =>
        obtain ⟨σ2, H2, I2, k⟩ := r
        exact gone I2 fun _ J => ⟨_, H2, J, k⟩
      | cont =>
        obtain ⟨σ2, H2, I2, k⟩ := r
        exact gone I2 fun _ J => ⟨_, H2, J, k⟩
/-- try: body / except c1 as n1: .. / except c2 as n2: .. -/
theorem ps_try_asM {body : List Stmt} {h0 : ExceptHandler} {hds : List ExceptHandler} {l : List (Value × Nat × Suite)} {tb : WX → TS} {pos : Pos} (hs : X.stack = X.env :: X.outer) (hf : X.env.frame = some X.env.locals) (hN : X.N.Nodup) (tk : Takes X Wout)
    (hb : ∀ (W : WX) (pn : List (Addr × Obj)) (xe : Value → Shared → Prop), Takes (X.tr pn xe) W → PassesOwn (model X.prog X.w) X.A X.env xe → PSs (X.tr pn xe) body (tb W)) (hh : HdsAs X (h0 :: hds) l) :
    PS X (.Try body (h0 :: hds) [] [] pos) (fun D σ H => tb (wAsM X.K Wout D l) D σ H) := by
  refine ⟨fun pins s σ H D I h => wpAny_Try_except ?_⟩
  have caught : Takes (X.tr (X.pn ++ pins) fun e s1 => wpAny (model X.prog X.w) X.A (noteFrame e X.env) (fun _ s2 => wpAny (model X.prog X.w) X.A (setFlight e none) (fun _ s3 => wpAny (model X.prog X.w) X.A (handleBy e X.env (h0 :: hds)) (SP X pins D) X.xe s3) X.xe s2) X.xe s1) (wAsM X.K Wout D l) := by
    intro v t x
    obtain ⟨a, B, sI, pins2, σ2, H2, cls, d, rfl, J2, nb, up, sky, na, os, ag, w⟩ := x
    have J := J2.ofTry (pins := pins) I.ok
    have sk : Sky B (X.env :: X.outer) a (Zc cls d) X.env.locals t.heap := hs ▸ sky
    have fr : X.A.frames = some (X.env :: X.outer) := I.ok.frames.trans (congrArg some hs)
    show wpAny (model X.prog X.w) X.A (noteFrame (.ref a) X.env) _ _ _
    refine Sky.land Zc.steady fr hf sk fun h f u => ?_
    have far : a ∉ frs (X.env :: X.outer) := fun m => by
      obtain ⟨oe, vs, e, _, dt⟩ := f.there
      obtain ⟨_, oe2, e2, nf⟩ := PySem.Heap.FunFrames.mem f.2.2.1 m
      cases e.symm.trans e2
      exact nf _ dt
    have Z : Came X pins σ2 H2 B a cls d { t with heap := h } := {
      fly := f
      inv := fun h2 f2 u2 => J.landed nb f2.1 ((up.trans u).trans u2) os ag
      na := na
      nL := fun z => far (List.mem_filterMap.mpr ⟨X.env, List.mem_cons_self, hf.trans (congrArg some z.symm)⟩)
      nF := fun m => by
        obtain ⟨en, me, fe⟩ := List.mem_filterMap.mp m
        exact far (List.mem_filterMap.mpr ⟨en, List.mem_cons_of_mem _ me, fe⟩) }
    exact Z.clauses hN I.ok hf hh (fun w h2 held u2 => tk _ _ ⟨a, B, sI, pins, σ2, H2, cls, d, rfl, J, nb, (up.trans u).trans u2, .inr (.inr (hs ▸ held)), na, os, ag, w⟩) w
  refine wpAny_mono ((hb _ (X.pn ++ pins) _ caught PassesOwn.looking).run [] s σ H D (I.toTry _) h) (fun fl t r => ?_) fun _ _ z => z
  cases fl with
  | next =>
    obtain ⟨σ2, H2, J, k⟩ := r
    exact wpAny_execs_nil ⟨σ2, H2, J.ofTry I.ok, k⟩
  | ret u =>
    obtain ⟨v, σ2, H2, J, rv, k⟩ := r
    exact ⟨v, σ2, H2, J.ofTry I.ok, rv, k⟩
  | brk =>
    obtain ⟨σ2, H2, J, k⟩ := r
    exact ⟨σ2, H2, J.ofTry I.ok, k⟩
  | cont =>
    obtain ⟨σ2, H2, J, k⟩ := r
    exact ⟨σ2, H2, J.ofTry I.ok, k⟩
end
end WW

set_option Elab.async false
set_option linter.all false
set_option maxRecDepth 100000
set_option maxHeartbeats 4000000
/-! Calls of what may raise, inside a try: a def by its name, a class. -/
namespace WW
open PySem PySem.Spec PyProof.Rows L2
section
variable {X : Cx} {CX : CXT} {k n : Nat} {f C : Addr} {fd : FuncData} {ps : List Str} {sp : Sp} {E : L2.St → XK} {x : Str} {p pos : Pos} {e : Expr} {es : List Expr} {t : TA}
theorem pe_clS (c : Callee X.prog X.w X.K X.mg X.base CX k x n sp) (hr : Room k X.A) (hg : Gl X x) (hx : ∀ σ, PassesAt CX X σ (E σ)) (ha : PA X (e :: es) t)
    (hdb : (x == ("__debug__" : Str)) = false := by decide) (he : starEach (e :: es) X.env = (false, eval e X.env) :: starEach es X.env := by rfl) (hpl : (backTo pos (starEach es X.env)).any (·.1) = false := by rfl) :
    PE X (.Call (.Name x p) (e :: es) [] pos) (tCallS sp E t) := by
  obtain ⟨f, fd, ps, _, F, hm, hk, hb⟩ := c.ex
  exact pe_callS F hr hg hm hk hb hx ha hdb he hpl
/-- C(..), whose __init__ may raise -/
def tMakeS (C : Addr) (sp : Sp) (E : L2.St → XK) (t : TA) : TE := fun σ H Q => t σ H fun vs H1 => ∀ o m, H1 o = none → H1 m = none → m ≠ o → sp (.ref o :: vs) (upd (upd H1 m (.own o)) o (.ins C m [])) (fun v H2 => v = .non ∧ Q (.ref o) H2) (E σ)
theorem pe_makeS (M : Mk X.K C f) (F : FnOk X.prog X.w X.K X.mg X.base CX k f fd ps sp) (hr : Room (k + 1) X.A) (hg : Gl X x) (hm : X.mg x = some (.ref C)) (hb : Binds X.K fd ps []) (hx : ∀ σ, PassesAt CX X σ (E σ)) (ha : PA X (e :: es) t)
    (hdb : (x == ("__debug__" : Str)) = false := by decide) (he : starEach (e :: es) X.env = (false, eval e X.env) :: starEach es X.env := by rfl) (hpl : (backTo pos (starEach es X.env)).any (·.1) = false := by rfl) :
    PE X (.Call (.Name x p) (e :: es) [] pos) (tMakeS C sp E t) := by
  refine ⟨fun pins s σ H Q I h => wpAny_Call_Name_kw (ld_glob I hg hm (PySem.W.callWith_K (h₀ := X.base) I.ok.mod.kin M.kp (thn (ha.run pos pins s σ H _ I h) fun us s1 z => ?_) he hpl) hdb)⟩
  obtain ⟨vs, H1, I1, r, q⟩ := z
  refine ⟨I1.kIn, ?_⟩
  have low : s1.heap.objs.size ≤ s1.heap.objs.size + 1 := Nat.le_succ _
  have new := q (s1.heap.objs.size + 1) s1.heap.objs.size (I1.hok.fresh low) (I1.hok.fresh (Nat.le_refl _)) (Nat.ne_of_lt (Nat.lt_succ_self _))
  have rs : Vals (V.ref (s1.heap.objs.size + 1) :: vs) (Value.ref (s1.heap.objs.size + 1) :: us) := .cons rfl r
  have J := I1.made (C := C)
  have many : (Value.ref (s1.heap.objs.size + 1) :: us ++ []).length = ps.length := by rw [List.append_nil, ← rs.length, F.len _ _ _ _ new]
  have bs := hb _ (Value.ref (s1.heap.objs.size + 1) :: us) J.kIn many
  rw [List.append_nil] at bs
  refine wpAny_call (make_map (f := f) I1.kIn M.makes M.init (beq_iff_eq.mp M.fn) (codeAny_mono (F.run _ X.stack _ _ ⟨Value.ref (s1.heap.objs.size + 1) :: us, []⟩ _ _ _ (E σ) (hr.make C us []) (J.env0.make C us []) bs rs new) fun a t z => ?_))
  match a, z with
  | .error _, z => exact hx σ _ _ _ _ t J z
  | .ok (.ret u), z =>
    obtain ⟨v, H2, J2, rv, rfl, k2⟩ := J.after z
    exact ⟨rv, .ref (s1.heap.objs.size + 1), H2, J2, rfl, k2⟩
  | .ok .next, z => exact False.elim z
  | .ok .brk, z => exact False.elim z
  | .ok .cont, z => exact False.elim z
end
end WW

set_option Elab.async false
set_option linter.all false
set_option maxRecDepth 100000
set_option maxHeartbeats 4000000
/-! Plain values of any kind, and what isinstance says of them. -/
namespace WW
open PySem PySem.Spec PyProof.Rows L2 Evl
inductive Pl (H : Hp) : V → Prop
  | non : Pl H .non
  | bl (b : Bool) : Pl H (.bl b)
  | int (i : Int) : Pl H (.int i)
  | str (z : Str) : Pl H (.str z)
  | lst {a : Addr} {xs : List V} (h : H a = some (.lst xs)) : Pl H (.ref a)
  | tup {a : Addr} {xs : List V} (h : H a = some (.tup xs)) : Pl H (.ref a)
  | dct {a : Addr} {kvs : List (Key × V)} (h : H a = some (.dK kvs)) : Pl H (.ref a)
def isI : V → Bool | .int _ => true | _ => false
def isB : V → Bool | .bl _ => true | _ => false
def isS : V → Bool | .str _ => true | _ => false
def isLo : Option HO → Bool | some (.lst _) => true | _ => false
def isTo : Option HO → Bool | some (.tup _) => true | _ => false
def isL (H : Hp) : V → Bool | .ref a => isLo (H a) | _ => false
def isT (H : Hp) : V → Bool | .ref a => isTo (H a) | _ => false
/-- v is of the type t, of which isinstance says .. -/
structure Kin (K : PySem.W.Frag) (H : Hp) (v : V) (t : Value) : Prop where
  ty : TyX K H v t
  int : PySem.W.kitOne K t (.type "int") = some (isI v || isB v)
  bool : PySem.W.kitOne K t (.type "bool") = some (isB v)
  str : PySem.W.kitOne K t (.type "str") = some (isS v)
  list : PySem.W.kitOne K t (.type "list") = some (isL H v)
  tuple : PySem.W.kitOne K t (.type "tuple") = some (isT H v)
theorem isL_at {H : Hp} {a : Addr} {o : HO} (h : H a = some o) : isL H (.ref a) = isLo (some o) := by rw [← h]; rfl
theorem isT_at {H : Hp} {a : Addr} {o : HO} (h : H a = some o) : isT H (.ref a) = isTo (some o) := by rw [← h]; rfl
theorem Pl.kin {K : PySem.W.Frag} {H : Hp} {v : V} (h : Pl H v) : ∃ t, Kin K H v t := by
  cases h with
  | non => exact ⟨.type "NoneType", .base .non, kit_ty (r := false) (by decide +kernel), kit_ty (r := false) (by decide +kernel), kit_ty (r := false) (by decide +kernel), kit_ty (r := false) (by decide +kernel), kit_ty (r := false) (by decide +kernel)⟩
  | bl b => exact ⟨.type "bool", .base (.bl b), kit_ty (r := true) (by decide +kernel), kit_ty (r := true) (by decide +kernel), kit_ty (r := false) (by decide +kernel), kit_ty (r := false) (by decide +kernel), kit_ty (r := false) (by decide +kernel)⟩
  | int i => exact ⟨.type "int", .base (.int i), kit_ty (r := true) (by decide +kernel), kit_ty (r := false) (by decide +kernel), kit_ty (r := false) (by decide +kernel), kit_ty (r := false) (by decide +kernel), kit_ty (r := false) (by decide +kernel)⟩
  | str z => exact ⟨.type "str", .base (.str z), kit_ty (r := false) (by decide +kernel), kit_ty (r := false) (by decide +kernel), kit_ty (r := true) (by decide +kernel), kit_ty (r := false) (by decide +kernel), kit_ty (r := false) (by decide +kernel)⟩
  | lst h => exact ⟨.type "list", .base (.lst h), kit_ty (r := false) (by decide +kernel), kit_ty (r := false) (by decide +kernel), kit_ty (r := false) (by decide +kernel), (isL_at h : isL H _ = true) ▸ kit_ty (r := true) (by decide +kernel), (isT_at h : isT H _ = false) ▸ kit_ty (r := false) (by decide +kernel)⟩
  | tup h => exact ⟨.type "tuple", .base (.tup h), kit_ty (r := false) (by decide +kernel), kit_ty (r := false) (by decide +kernel), kit_ty (r := false) (by decide +kernel), (isL_at h : isL H _ = false) ▸ kit_ty (r := false) (by decide +kernel), (isT_at h : isT H _ = true) ▸ kit_ty (r := true) (by decide +kernel)⟩
  | dct h => exact ⟨.type "dict", .base (.dK h), kit_ty (r := false) (by decide +kernel), kit_ty (r := false) (by decide +kernel), kit_ty (r := false) (by decide +kernel), (isL_at h : isL H _ = false) ▸ kit_ty (r := false) (by decide +kernel), (isT_at h : isT H _ = false) ▸ kit_ty (r := false) (by decide +kernel)⟩
theorem Pl.ex {H H' : Hp} {v : V} (e : Ex H H') (h : Pl H v) : Pl H' v := by
  cases h with
  | non => exact .non
  | bl b => exact .bl b
  | int i => exact .int i
  | str z => exact .str z
  | lst h => exact .lst (e _ _ h)
  | tup h => exact .tup (e _ _ h)
  | dct h => exact .dct (e _ _ h)
end WW

set_option Elab.async false
set_option linter.all false
set_option maxRecDepth 100000
set_option maxHeartbeats 4000000
/-! set(xs), xs a list of texts. -/
namespace WW
open PySem PySem.Spec PyProof.Rows L2

section
variable {P : Program} {w : World} {κ : Type} [DecidableEq κ] {knd : PySem.KeyKind P w κ} {A : Around} {E : Value → Shared → Prop} {s : Shared}
theorem added_take {xs ks ks' : List κ} {i : Nat} {x : κ} (hx : xs[i]? = some x) (m : ∀ k, k ∈ ks ↔ k ∈ xs.take i) (l : ks.length ≤ i) (h : Added ks x ks') : ks'.length ≤ i + 1 ∧ ∀ k, k ∈ ks' ↔ k ∈ xs.take (i + 1) := by
  have et : xs.take (i + 1) = xs.take i ++ [x] := by rw [List.take_add_one, hx]; rfl
  rcases h with ⟨h1, rfl⟩ | ⟨h1, h2⟩
  · refine ⟨by omega, fun k => ?_⟩
    rw [et, List.mem_append, List.mem_singleton, ← m k]
    exact ⟨.inl, fun z => z.elim id fun e => e ▸ h1⟩
  · refine ⟨by rw [h2.length_eq, List.length_cons]; omega, fun k => ?_⟩
    rw [et, List.mem_append, List.mem_singleton, ← m k, h2.mem_iff, List.mem_cons]
    exact ⟨fun z => z.elim .inr .inl, fun z => z.elim .inr .inl⟩
/-- the walk of set(..) over things that are keys -/
theorem setw_loop {I : Addr} {fp wr : List Addr} {G : Array GenState → Array GenState → Prop} {n : Nat} {Pv : Nat → Value → Prop} {St : Nat → Shared → Prop} {R : Result → Shared → Prop}
    (W : WalksS P w A.in1 I fp wr G n Pv St) (S : Addr) (away : S ∉ fp) (xs : List κ) (hn : xs.length = n) (hb : n + 1 < scanBound) (val : ∀ i v, Pv i v → ∃ x, xs[i]? = some x ∧ knd.is x v = true ∧ v.scannable = true) :
    ∀ (k i : Nat) (s : Shared) (ks : List κ), n - i = k → i ≤ n → St i s → SetW knd s.heap S ks → ks.length ≤ i → (∀ x, x ∈ ks ↔ x ∈ xs.take i) →
      (∀ s' ls, Moved (S :: wr) G s s' → SetW knd s'.heap S ls → (∀ x, x ∈ ls ↔ x ∈ xs) → R (.ok (.ret .none)) s') → codeAny (model P w) A (.builtin "set.update.loop" ⟨[.ref S, .ref I], []⟩) R s := by
  have off : S ∉ wr := fun z => away (W.sub S z)
  have more : ∀ b ∈ wr, b ∈ S :: wr := fun b z => List.mem_cons_of_mem S z
  intro k
  induction k with
  | zero =>
    intro i s ks hk hi st hS hl hm fin
    obtain rfl : i = n := by omega
    refine codeAny_builtin F.entry_set_update_loop ?_; rw [Around.under_plainId F.plain_set_update_loop _]
    show wpAny _ A.in1 (pyNext (Value.ref I) >>= _) _ _ s
    refine wpAny_bind (W.done s _ _ st fun s1 mv => ?_); show wpAny _ A.in1 (ret Value.none) _ _ s1
    exact wpAny_pure (fin s1 ks (mv.mono more) (hS.here fun o e => mv.heap S o off e) fun x => by rw [hm x, ← hn, List.take_length])
  | succ k ih =>
    intro i s ks hk hi st hS hl hm fin
    have lt : i < n := by omega
    refine codeAny_builtin F.entry_set_update_loop ?_; rw [Around.under_plainId F.plain_set_update_loop _]
    show wpAny _ A.in1 (pyNext (Value.ref I) >>= _) _ _ s
    refine wpAny_bind (W.item i s _ _ lt st fun v s1 hv st1 mv => ?_)
    obtain ⟨x, hx, k1, k2⟩ := val i v hv
    have S1 : SetW knd s1.heap S ks := hS.here fun o e => mv.heap S o off e
    show wpAny _ A.in1 (holding [v] (setAdd S v) >>= _) _ _ s1
    refine wpAny_bind (wpAny_holding ?_); unfold setAdd
    refine wpAny_holding (wpAny_bind (knd.pyHash k1 ?_))
    refine setw_addHashed (s := { s1 with toks := s1.toks + 1 }) k1 k2 S1 (by omega) fun b h' ks' sb S2 ad => ?_
    obtain ⟨l2, m2⟩ := added_take hx hm hl ad
    refine wpAny_pure ⟨plainId_quiet F.plain_set_update_loop _, ih (i + 1) _ ks' (by omega) lt (W.frame _ s1 _ _ st1 (Nat.le_succ _) fun c hc o e => ?_) S2 l2 m2 fun s2 ls mv2 S3 m3 => ?_⟩
    · exact (sb.2 c (fun z : c = S => away (z ▸ hc))).trans e
    · refine fin s2 ls (Moved.trans W.gtrans ((mv.mono more).then_heap (Nat.le_succ _) fun c o hc e => ?_) mv2) S3 m3
      exact (sb.2 c (fun z : c = S => hc (z ▸ List.mem_cons_self))).trans e
end

section
variable {P : Program} {w : World} {κ : Type} [DecidableEq κ] {knd : PySem.KeyKind P w κ} {A : Around} {E : Value → Shared → Prop} {s : Shared}
/-- a set object with nothing in it -/
abbrev noneIn (w : World) : Obj := { cls := .type "set", dict := none, data := .set #[] 0 (.fresh 0 0 (!w.params.followText "set-order")) }
theorem setw_none {h : Heap} {a : Addr} (e : h.get? a = some (noneIn w)) : SetW knd h a [] :=
  ⟨_, #[], 0, _, e, ⟨rfl, rfl, rfl⟩, rfl, List.nodup_nil, .nil, (by decide), (by rfl), List.Pairwise.nil, by
    show _ ∨ (!w.params.followText "set-order") = true
    cases w.params.followText "set-order" <;> simp⟩
theorem setw_of_list {l : Addr} {items : Array Value} (xs : List κ) {Q : Value → Shared → Prop} (hh : A.handled = none) (hl : s.heap.IsList l items) (hn : xs.length = items.size) (hb : items.size + 1 < scanBound)
    (hit : ∀ (i : Nat) v, items[i]? = some v → ∃ x, xs[i]? = some x ∧ knd.is x v = true ∧ v.scannable = true)
    (q : ∀ (h' : Heap) (tk : Nat) ks, SetW knd h' s.heap.objs.size ks → (∀ x, x ∈ ks ↔ x ∈ xs) → (∀ b o, s.heap.get? b = some o → h'.get? b = some o) → Q (.ref s.heap.objs.size) { s with heap := h', toks := tk }) :
    wpAny (model P w) A (call (.type "set") [.ref l]) Q E s := by
  obtain ⟨cc, cr, mro⟩ := F.called_set.mro
  have mde := F.called_set.made; have sbb := F.called_set.sub
  refine wpAny_call (codeAny_of_tree ?_); show wpAny _ _ (callAny (Value.type "set") _) _ _ _
  refine wpAny_pure ⟨Code.quiet_builtin _ (by decide +kernel), codeAny_builtin F.entry_type_call ?_⟩; rw [Around.under_plain (weight_type_call_type "set" [Value.ref l] []) rfl]
  have nty := F.called_set.notType; have ccr := F.called_set.canCreate
  have tcl := F.typeCall_set_1 (Value.ref l)
  repeat (any_goals (first | wp_step | assumption))
  refine codeAny_mono (code_set_led1 (Value.ref l) (E := E) (Q₁ := fun ob s1 => ob = .ref s.heap.objs.size ∧ s1 = { s with heap := s.heap.push (noneIn w) }) ⟨rfl, rfl⟩) fun r s1 hr => ?_
  cases r with
  | error e => exact hr
  | ok fl =>
    cases fl with
    | ret ob =>
      obtain ⟨rfl, rfl⟩ := hr
      have at1 : (s.heap.push (noneIn w)).get? s.heap.objs.size = some (noneIn w) := Heap.get?_push_size _ rfl
      have ty1 : Shared.TypeIs { s with heap := s.heap.push (noneIn w) } (.ref s.heap.objs.size) "set" := ⟨_, at1, rfl⟩
      have ilk := F.called_set.init.lookup; have ibd := F.called_set.init.bind (.ref s.heap.objs.size)
      repeat (any_goals (first | wp_step | assumption))
      refine codeAny_mono (codeAny_call_builtin (R := wants (fun r s2 => r = .none ∧ ∃ h' tk ks, s2 = { s with heap := h', toks := tk } ∧ SetW knd h' s.heap.objs.size ks ∧ (∀ x, x ∈ ks ↔ x ∈ xs) ∧ ∀ b o, s.heap.get? b = some o → h'.get? b = some o) E) F.called_set.init.plain F.entry_set_init (check_set_init_1 ty1 ?_)) fun r2 s2 hr2 => ?_
      · obtain ⟨⟨cl1, dc1, da1, sl1⟩, ho1, hc1, nn1, hd1⟩ := hl
        simp only at hc1 hd1; subst hc1; subst hd1
        have ho2 : (s.heap.push (noneIn w)).get? l = some { cls := .type "list", dict := dc1, data := .seq items nn1, slots := sl1 } := Heap.get?_push_of_some _ ho1
        have nls := F.sub_list_set; have nlf := F.sub_list_frozenset
        have nld : (Value.type "list" == Value.type "dict") = false := by decide
        have il1 : (s.heap.push (noneIn w)).IsList l items := ⟨_, ho2, rfl, nn1, rfl⟩
        unfold Builtin.«set.__init__» noKeywords Builtin.Frozenset.updateFrom; generalize hgen : pyIter = itf
        wp_walk
        subst hgen
        refine wpAny_pyIter_list il1 (wpAny_bind (wpAny_runValue ?_))
        have ls : l < s.heap.objs.size := Heap.lt_size ho1
        have sz1 : (s.heap.push (noneIn w)).objs.size = s.heap.objs.size + 1 := Heap.size_push ..
        have han : A.in1.in1.in1.handled = none := by simp only [hh, Around.in1]
        have ne1 : l ≠ (s.heap.push (noneIn w)).objs.size := by rw [sz1]; exact Nat.ne_of_lt (Nat.lt_succ_of_lt ls)
        have away : s.heap.objs.size ∉ [(s.heap.push (noneIn w)).objs.size, l] := by
          rw [sz1]
          intro z
          rcases List.mem_cons.mp z with z | z
          · exact Nat.ne_of_lt (Nat.lt_succ_self _) z
          · exact Nat.ne_of_gt ls (List.mem_singleton.mp z)
        refine setw_loop (knd := knd) ((Walks.list han _ l ne1 items).toS) s.heap.objs.size away xs hn hb hit (items.size - 0) 0 _ [] (by omega) (Nat.zero_le _) ⟨⟨_, Heap.get?_push_size _ rfl, rfl, rfl⟩, (il1.push _)⟩
          (setw_none (Heap.get?_push_of_some _ at1)) (Nat.le_refl 0) (fun x => by simp) fun s3 ks mv S3 m3 => ?_
        obtain ⟨h3, g3, d3, t3, o3⟩ := s3
        obtain rfl : g3 = s.gens := mv.gens
        obtain rfl : d3 = s.drawn := mv.drawn
        obtain rfl : o3 = s.os := mv.os
        show wpAny _ _ _ _ _ _
        refine wpAny_pure ?_; show wpAny _ _ (ret Value.none) _ _ _
        refine wpAny_pure ⟨rfl, h3, t3, ks, rfl, S3, m3, fun b o e => mv.heap b o (fun z => ?_) (Heap.get?_push_of_some _ (Heap.get?_push_of_some _ e))⟩
        have lb := Heap.lt_size e
        rcases List.mem_cons.mp z with z | z
        · exact Nat.ne_of_lt lb z
        · have z2 := List.mem_singleton.mp z
          rw [sz1] at z2
          exact Nat.ne_of_lt (Nat.lt_succ_of_lt lb) z2
      · cases r2 with
        | error e => exact hr2
        | ok fl2 =>
          cases fl2 with
          | ret r =>
            obtain ⟨rfl, h3, t3, ks, rfl, S3, m3, k3⟩ := hr2
            repeat (any_goals (first | wp_step | assumption))
            exact q h3 t3 ks S3 m3 k3
          | _ => exact hr2.elim
    | _ => exact hr.elim
end
section
variable {X : Cx}
/-- set(xs), xs a list of texts -/
def rSetOfS (K : PySem.W.Frag) (P : Program) (w : World) : List V → Hp → VK → Prop := fun vs H Q => ∃ (l : Addr) (zs : List Str), vs = [V.ref l] ∧ SqL K H l (zs.map V.str) ∧ zs.length + 1 < scanBound ∧
  ∀ a ks, H a = none → ks.Nodup → (∀ x, x ∈ ks ↔ x ∈ zs) → Q (.ref a) (upd H a (SSO P w a ks))
theorem cr_setOfS (hc : X.calm = true) : CallR X (.type "set") (rSetOfS X.K X.prog X.w) := by
  intro pins s σ H xs us Q I r h
  obtain ⟨l, zs, rfl, hl, hb, q⟩ := h
  rw [Vals.ref1 r]
  obtain ⟨its, rv, pl, hz⟩ := I.list hl
  have free : H s.heap.objs.size = none := I.hok.fresh (Nat.le_refl _)
  have le : zs.length = its.toArray.size := by rw [List.size_toArray, ← rv.length, List.length_map]
  have sa : StrsAre its zs := by
    clear pl hl hz le q hb
    induction zs generalizing its with
    | nil => cases rv; exact .nil
    | cons z zs ih =>
      cases rv with
      | cons r1 r2 =>
        obtain ⟨t, rfl⟩ := r1
        exact .cons z t (ih _ r2)
  refine setw_of_list (knd := PySem.strKind X.prog X.w) zs (I.ok.hd hc) pl.isList le (by rw [← le]; exact hb) (fun i v hv => ?_) fun h' tk ks R m k => ?_
  · have hv2 : its[i]? = some v := by simpa using hv
    have li : i < zs.length := by
      have := (List.getElem?_eq_some_iff.mp hv2).1
      rw [le, List.size_toArray]
      exact this
    obtain ⟨t, rfl⟩ := SS.strs_at sa i v hv2
    refine ⟨zs.getD i Str.empty, ?_, strKind_is _ _ _ _, rfl⟩
    rw [List.getD_eq_getElem?_getD, List.getElem?_eq_getElem li]
    rfl
  · have nd : ks.Nodup := by
      obtain ⟨_, _, _, _, _, _, _, nd, _⟩ := R
      exact nd
    exact ⟨.ref s.heap.objs.size, upd H s.heap.objs.size (SSO X.prog X.w s.heap.objs.size ks), I.laid (t' := tk) k (Nat.le_refl _) (sso_new R), rfl, q _ ks free nd m⟩
end
end WW

set_option Elab.async false
set_option linter.all false
set_option maxRecDepth 100000
set_option maxHeartbeats 4000000
/-! A head's facts with the __init__s of own exceptions. -/
namespace WW
open PySem PySem.Spec PyProof.Rows L2 He
abbrev AlE : Type := He.AlD × List FnE
def obsE (fa : List Fa) (fn : List He5.DefA) (fe : List DefE) (ex : PySem.W.Frag → Bool) (K : PySem.W.Frag) : AlE := (obsB fa fn ex K, fe.map fun d => fnE K (exI K d.cls))
def valE (fn : List He5.DefA) (fe : List DefE) : AlE := (He5.valA fn, fe.map DefE.val)
def SaysE (fa : List Fa) (fn : List He5.DefA) (fe : List DefE) (ex : PySem.W.Frag → Bool) (K : PySem.W.Frag) : Prop := obsE fa fn fe ex K = valE fn fe
def obsEG (n : Nat) (fa : List Fa) (fn : List He5.DefA) (fe : List DefE) (ex : PySem.W.Frag → Bool) (g : Addr → Option Obj) : AlE := obsE fa fn fe ex (frG g (He5.asA g n))
def hookE (n : Nat) (fa : List Fa) (fn : List He5.DefA) (fe : List DefE) (ex : PySem.W.Frag → Bool) : PySem.W.Hook where
  α := AlE
  obs := fun s => obsEG n fa fn fe ex s.heap.get?
  val := fun _ => valE fn fe
  says := fun _ h => ∃ K : PySem.W.Frag, K.In h ∧ SaysE fa fn fe ex K
  of := fun _ _ e => ⟨_, frG_in, e⟩
  keeps := fun _ _ _ ⟨K, hK, c⟩ k => ⟨K, PySem.W.Frag.In.keeps hK k, c⟩
theorem obsEG_eq {n : Nat} {fa : List Fa} {fn : List He5.DefA} {fe : List DefE} {ex : PySem.W.Frag → Bool} {g : Addr → Option Obj} {s : Shared} (h : ∀ a, g a = s.heap.get? a) : obsEG n fa fn fe ex g = (hookE n fa fn fe ex).obs s := by
  have e : g = s.heap.get? := funext h
  rw [e] <;> rfl
section
variable {fa : List Fa} {fn : List He5.DefA} {fe : List DefE} {ex : PySem.W.Frag → Bool} {K : PySem.W.Frag}
theorem SaysE.b (c : SaysE fa fn fe ex K) : SaysB fa fn ex K := congrArg (fun z : AlE => z.1) c
theorem SaysE.exc (c : SaysE fa fn fe ex K) (i : Nat) {d : DefE} (h : fe[i]? = some d := by rfl) : fnE K (exI K d.cls) = d.val := by
  have e : fe.map (fun d => fnE K (exI K d.cls)) = fe.map DefE.val := congrArg (fun z : AlE => z.2) c
  have e2 : (fe.map fun d => fnE K (exI K d.cls))[i]? = (fe.map DefE.val)[i]? := by rw [e]
  rw [List.getElem?_map, List.getElem?_map, h] at e2
  exact Option.some.inj e2
end
theorem all_at {l : List Bool} {b : Bool} (h : l.all id = true) (i : Nat) (e : l[i]? = some b) : b = true := List.all_eq_true.mp h b (List.mem_of_getElem? e)
theorem ExD.binds {P : Program} {K : PySem.W.Frag} {mg : Str → Option Value} {C f cc cda : Addr} {qual par : Str} {params : Arguments} {body : List Stmt} {scope : Scope} {fd : FuncData} (D : ExD P K mg C f cc cda qual params body scope fd)
    (h : ∀ (kV doc pm : Value) (an : Option Addr) (ct : Value) (us : List Value), us.length = 2 → bindArgs (PySem.W.ksFn "__init__" qual params body scope .none kV doc pm an (.ref cda) ct cc) ⟨us, []⟩ = pure ((["self", par] : List Str).zip us)) : Binds K fd ["self", par] [] := by
  obtain ⟨kV, doc, pm, an, ct, rfl⟩ := D.fdat
  exact .all fun us hl => h kV doc pm an ct us hl
/-- a promise that never speaks of what is raised: nothing is -/
theorem fn_none {P : Program} {w : World} {K : PySem.W.Frag} {mg : Str → Option Value} {base : Heap} {k : Nat} {f : Addr} {fd : FuncData} {ps : List Str} {sp : Sp} (F : FnOk P w K mg base (L2.CX P w) k f fd ps sp) (h : ∀ vs H Q E, sp vs H Q E → sp vs H Q En) : FnOk P w K mg base CXn k f fd ps sp := by
  refine ⟨F.len, fun A outer s H args us vs Q E hr e0 hbind r hsp => codeAny_mono (F.run A outer s H args us vs Q En hr e0 hbind r (h _ _ _ _ hsp)) fun a t z => ?_⟩
  match a, z with
  | .error _, z =>
    obtain ⟨_, _, _, _, _, _, _, _, _, _, _, _, q⟩ := z
    exact q.elim
  | .ok (.ret u), z => exact z
  | .ok .next, z => exact z
  | .ok .brk, z => exact z
  | .ok .cont, z => exact z
end WW

set_option Elab.async false
set_option linter.all false
set_option maxRecDepth 100000
set_option maxHeartbeats 4000000
namespace WK
open PySem PySem.Spec PyProof.Rows L2 WW Evl
def top (i : Nat) : Stmt := PySem.Challenge.pw_watchedworks_k00_hands_told_and_refused.main.body.getD i (.Pass ⟨0, 0, 0, 0⟩)
/-- the built-in names that the program doesn't take -/
structure Gz (mg : Str → Option Value) : Prop where
  g_len : mg "len" = none
  g_isinstance : mg "isinstance" = none
  g_int : mg "int" = none
  g_bool : mg "bool" = none
  g_str : mg "str" = none
  g_list : mg "list" = none
  g_tuple : mg "tuple" = none
  g_all : mg "all" = none
  g_abs : mg "abs" = none
  g_max : mg "max" = none
  g_sorted : mg "sorted" = none
  g_range : mg "range" = none
  g_enumerate : mg "enumerate" = none
  g_set : mg "set" = none
/-- a def of the module's -/
structure Df (K : PySem.W.Frag) (mg : Str → Option Value) (x : Str) (st : Stmt) (f : Addr) (fd : FuncData) (ps : List Str) : Prop where
  fn : FunD K x x (defArgs st) (defBody st) (defScope st) [] [] f fd
  at_ : mg x = some (.ref f)
  bd : Binds K fd ps []
theorem Df.callee {P : Program} {w : World} {K : PySem.W.Frag} {mg : Str → Option Value} {base : Heap} {CX : CXT} {k : Nat} {x : Str} {st : Stmt} {f : Addr} {fd : FuncData} {ps : List Str} {sp : Sp} (D : Df K mg x st f fd ps) (ok : FnOk P w K mg base CX k f fd ps sp) : Callee P w K mg base CX k x ps.length sp :=
  ⟨f, fd, ps, rfl, ok, D.at_, D.fn.kp, D.bd⟩
section
variable {P : Program} {w : World} {K : PySem.W.Frag} {mg : Str → Option Value} {base : Heap} {f : Addr} {fd : FuncData}
abbrev s_is_integer : Stmt := top 8
theorem sc_is_integer : FnScope ["thing"] ["thing"] (defScope s_is_integer) := ⟨rfl, rfl, rfl, by decide +kernel, rfl, by decide +kernel, by decide +kernel⟩
def spIsInteger : Sp := fun vs H Q _ => ∃ i : Int, vs = [.int i] ∧ ∀ H', Ex H H' → Q (.bl true) H'
theorem ok_is_integer (G : Gz mg) (D : Df K mg "is_integer" s_is_integer f fd ["thing"]) : Callee P w K mg base CXn 1 "is_integer" 1 spIsInteger := by
  refine D.callee (D.fn.ok sc_is_integer (fun vs H Q E h => ?_) (fun cdv A outer s H vs Q E hr h => ⟨_, PSs.nox (pss_one (ps_ret (L2.pe_and (pe_callB (isiK (K := K) rfl) rfl G.g_isinstance (by rfl) (pa_cons (pv 0) (pa_cons (pe_bltn (v := .ty "int") rfl G.g_int (by rfl) rfl) pa_nil))) (pe_one (pe_not (pe_callB (isiK (K := K) rfl) rfl G.g_isinstance (by rfl) (pa_cons (pv 0) (pa_cons (pe_bltn (v := .ty "bool") rfl G.g_bool (by rfl) rfl) pa_nil)))))))), ?_⟩))
  · obtain ⟨i, rfl, _⟩ := h
    rfl
  · obtain ⟨i, rfl, k⟩ := h
    refine ⟨_, rfl, .int i, .ty "int", .type "int", .type "int", true, rfl, .ty _, .base (.int i), kit_ty (by decide +kernel), true, rfl, ?_⟩
    exact ⟨_, rfl, .int i, .ty "bool", .type "int", .type "bool", false, rfl, .ty _, .base (.int i), kit_ty (by decide +kernel), false, rfl, k _ (Ex.refl _)⟩
abbrev s_is_row : Stmt := top 9
theorem sc_is_row : FnScope ["thing"] ["thing"] (defScope s_is_row) := ⟨rfl, rfl, rfl, by decide +kernel, rfl, by decide +kernel, by decide +kernel⟩
def spIsRow : Sp := fun vs H Q _ => ∃ (a : Addr) (xs : List V), vs = [.ref a] ∧ (H a = some (.lst xs) ∨ H a = some (.tup xs)) ∧ ∀ H', Ex H H' → Q (.bl true) H'
theorem ok_is_row (G : Gz mg) (D : Df K mg "is_row" s_is_row f fd ["thing"]) : Callee P w K mg base CXn 1 "is_row" 1 spIsRow := by
  refine D.callee (D.fn.ok sc_is_row (fun vs H Q E h => ?_) (fun cdv A outer s H vs Q E hr h => ⟨_, PSs.nox (pss_one (ps_ret (pe_callB call_isiT rfl G.g_isinstance (by rfl) (pa_cons (pv 0) (pa_cons (pe_tup (pa_cons (pe_bltn (v := .ty "list") rfl G.g_list (by rfl) rfl) (pa_cons (pe_bltn (v := .ty "tuple") rfl G.g_tuple (by rfl) rfl) pa_nil))) pa_nil))))), ?_⟩))
  · obtain ⟨i, _, rfl, _⟩ := h
    rfl
  · obtain ⟨a, xs, rfl, hx, k⟩ := h
    refine ⟨_, rfl, (by decide), fun p hp => ?_⟩
    have e1 : Ex H (upd H p (.tup [.ty "list", .ty "tuple"])) := Ex.new hp
    rcases hx with hx | hx
    · exact ⟨.ref a, p, _, .type "list", [.type "list", .type "tuple"], true, rfl, upd_same, .cons (.ty _) (.cons (.ty _) .nil), .base (.lst (e1 _ _ hx)), kitAny_cons (kit_ty (r := true) (by decide +kernel)) (fun z => nomatch z) (fun _ => rfl), k _ e1⟩
    · exact ⟨.ref a, p, _, .type "tuple", [.type "list", .type "tuple"], true, rfl, upd_same, .cons (.ty _) (.cons (.ty _) .nil), .base (.tup (e1 _ _ hx)),
        kitAny_cons (kit_ty (r := false) (by decide +kernel)) (fun _ => kitAny_cons (kit_ty (r := true) (by decide +kernel)) (fun z => nomatch z) (fun _ => rfl)) (fun z => nomatch z), k _ e1⟩
abbrev s_is_row_of : Stmt := top 10
theorem sc_is_row_of : FnScope ["thing", "least", "most"] ["thing", "least", "most"] (defScope s_is_row_of) := ⟨rfl, rfl, rfl, by decide +kernel, rfl, by decide +kernel, by decide +kernel⟩
def spIsRowOf : Sp := fun vs H Q _ => ∃ (a : Addr) (xs : List V) (l m : Int), vs = [.ref a, .int l, .int m] ∧ (H a = some (.lst xs) ∨ H a = some (.tup xs)) ∧ ∀ H', Ex H H' → Q (.bl (decide (l ≤ xs.length) && decide ((xs.length : Int) ≤ m))) H'
theorem ok_is_row_of (G : Gz mg) (D : Df K mg "is_row_of" s_is_row_of f fd ["thing", "least", "most"]) (c_is_row : Callee P w K mg base CXn 1 "is_row" 1 spIsRow) : Callee P w K mg base CXn 2 "is_row_of" 3 spIsRowOf := by
  refine D.callee (D.fn.ok sc_is_row_of (fun vs H Q E h => ?_) (fun cdv A outer s H vs Q E hr h => ⟨_, PSs.nox (pss_one (ps_ret (L2.pe_and (pe_cl (E := En) c_is_row (hr.mono (by decide)) rfl passN (pa_cons (pv 0) pa_nil)) (pe_one (pe_chain op_le op_le (pv 1) (pe_callB (lenK (K := K) rfl) rfl G.g_len PySem.boot_len (pa_cons (pv 0) pa_nil)) (pv 2)))))), ?_⟩))
  · obtain ⟨i, _, _, _, rfl, _⟩ := h
    rfl
  · obtain ⟨a, xs, l, m, rfl, hx, k⟩ := h
    refine ⟨_, rfl, a, xs, rfl, hx, fun H1 e1 => ⟨true, rfl, ?_⟩⟩
    have hx1 : LenV K (.ref a) H1 xs.length := hx.elim (fun z => .inl ⟨xs, sq_of (e1 _ _ z), rfl⟩) fun z => .inr ⟨xs, st_of (e1 _ _ z), rfl⟩
    refine ⟨_, rfl, _, rfl, _, _, rfl, hx1, l, _, rfl, rfl, decide (l ≤ (xs.length : Int)), rfl, ?_⟩
    cases hd : decide (l ≤ (xs.length : Int)) with
    | false =>
      have q := k H1 e1
      rw [hd] at q
      exact q
    | true =>
      have q := k H1 e1
      rw [hd] at q
      exact ⟨_, rfl, _, _, rfl, rfl, q⟩
abbrev s_is_name : Stmt := top 11
theorem sc_is_name : FnScope ["thing", "letter"] ["thing"] (defScope s_is_name) := ⟨rfl, rfl, rfl, by decide +kernel, rfl, by decide +kernel, by decide +kernel⟩
def IsNm (z : Str) : Prop := 1 ≤ z.length ∧ z.length ≤ 10 ∧ ∀ c ∈ z.cps.toList, 97 ≤ c ∧ c ≤ 122
def spIsName : Sp := fun vs H Q _ => ∃ z : Str, vs = [.str z] ∧ IsNm z ∧ ∀ H', Ex H H' → Q (.bl true) H'
theorem ok_is_name (G : Gz mg) (gc : ∃ t, mg "MOST_LETTERS" = some (.int 10 t)) (D : Df K mg "is_name" s_is_name f fd ["thing"]) : Callee P w K mg base CXn 1 "is_name" 1 spIsName := by
  obtain ⟨tc, g_MOST_LETTERS⟩ := gc
  have r_MOST_LETTERS : RelV (.int 10) (.int 10 tc) := ⟨_, rfl⟩
  refine D.callee (D.fn.ok sc_is_name (fun vs H Q E h => ?_) (fun cdv A outer s H vs Q E hr h => ⟨_, PSs.nox (pss_cons (ps_if (PW.pt (pw_or (pt_not (pt_val (pe_callB (isiK (K := K) rfl) rfl G.g_isinstance (by rfl) (pa_cons (pv 0) (pa_cons (pe_bltn (v := .ty "str") rfl G.g_str (by rfl) rfl) pa_nil))))) (pw_or1 (pt_not (pt_chain op_le op_le pe_int (pe_callB (lenK (K := K) rfl) rfl G.g_len PySem.boot_len (pa_cons (pv 0) pa_nil)) (pe_glob rfl g_MOST_LETTERS r_MOST_LETTERS)))))) (pss_one (ps_ret pe_bl)) pss_nil) (pss_one (ps_ret (pe_callB (cr_all rfl) rfl G.g_all (by rfl) (pa_cons (pe_lc (own := [("letter", 1)]) rfl sc_is_name.nd (pi_str (pv 0)) (BlkOk.mk (N := ["thing", "letter"]) (sc := defScope s_is_name) rfl (by decide +kernel) (by decide +kernel) (by decide +kernel) (by decide +kernel)) (fun _ _ _ _ _ => (pg_name (i := 1) sc_is_name.nd rfl (Or.inl rfl))) (fun _ _ _ _ _ => pts_nil) (fun _ _ _ _ _ => (pe_chain op_le_str op_le_str pe_str (pv 1) pe_str))) pa_nil))))), ?_⟩))
  · obtain ⟨i, rfl, _⟩ := h
    rfl
  · obtain ⟨z, rfl, ⟨h1, h10, hc⟩, k⟩ := h
    refine ⟨_, rfl, .str z, .ty "str", .type "str", .type "str", true, rfl, .ty _, .base (.str z), kit_ty (by decide +kernel), true, rfl, ?_⟩
    have hl : LenV K (.str z) H z.length := ⟨Nat.le_trans h10 (by decide), rfl⟩
    refine iteF ⟨_, rfl, .str z, z.length, rfl, hl, 1, (z.length : Int), rfl, rfl, decide ((1 : Int) ≤ (z.length : Int)), rfl, ?_⟩
    rw [decide_eq_true (show (1 : Int) ≤ (z.length : Int) by omega)]
    refine ⟨(z.length : Int), 10, rfl, rfl, decide ((z.length : Int) ≤ 10), rfl, ?_⟩
    rw [decide_eq_true (show (z.length : Int) ≤ 10 by omega)]
    refine iteF ?_
    refine ⟨.str z, rfl, z, rfl, fun D hD => ?_⟩
    refine lc_ev (f := fun _ => true) (v := fun _ => .bl true) st_s (by rw [chs_len]; omega) (fun x => rfl) hD (fun x _ H1 e Q q => q H1 (Ex.refl _)) (fun x hx _ H1 e Q q => ?_) (fun H' e hd => ?_)
    · obtain ⟨c, hm, rfl⟩ : ∃ c, c ∈ z.cps.toList ∧ V.str ⟨#[c]⟩ = x := by unfold chs at hx; simpa using hx
      obtain ⟨g1, g2⟩ := hc c hm
      refine ⟨_, rfl, (Str.ofString "a"), ⟨#[c]⟩, rfl, rfl, _, rfl, ?_⟩
      have e1 : (!decide ((⟨#[c]⟩ : Str).cps.toList < (Str.ofString "a").cps.toList)) = true := by
        have : (Str.ofString "a").cps.toList = [97] := by decide +kernel
        rw [this]
        simp [List.cons_lt_cons_iff]
        omega
      rw [e1]
      refine ⟨⟨#[c]⟩, (Str.ofString "z"), rfl, rfl, ?_⟩
      have e2 : (!decide ((Str.ofString "z").cps.toList < (⟨#[c]⟩ : Str).cps.toList)) = true := by
        have : (Str.ofString "z").cps.toList = [122] := by decide +kernel
        rw [this]
        simp [List.cons_lt_cons_iff]
        omega
      rw [e2]
      exact q H1 (Ex.refl _)
    · refine ⟨D, (chs z).map fun _ => true, rfl, sq_of ?_, ?_⟩
      · rw [hd, List.filter_eq_self.mpr (fun _ _ => rfl), List.map_map]
        rfl
      · have e3 : ((chs z).map fun _ => true).all id = true := by simp
        rw [e3]
        exact k H' e
abbrev s_is_state : Stmt := top 12
theorem sc_is_state : FnScope ["thing"] ["thing"] (defScope s_is_state) := ⟨rfl, rfl, rfl, by decide +kernel, rfl, by decide +kernel, by decide +kernel⟩
def spIsState : Sp := fun vs H Q _ => ∃ i : Int, vs = [.int i] ∧ 0 ≤ i ∧ i ≤ 99 ∧ ∀ H', Ex H H' → Q (.bl true) H'
theorem ok_is_state (G : Gz mg) (gc : ∃ t, mg "GREATEST_STATE" = some (.int 99 t)) (D : Df K mg "is_state" s_is_state f fd ["thing"]) (c_is_integer : Callee P w K mg base CXn 1 "is_integer" 1 spIsInteger) : Callee P w K mg base CXn 2 "is_state" 1 spIsState := by
  obtain ⟨tc, g_GREATEST_STATE⟩ := gc
  have r_GREATEST_STATE : RelV (.int 99) (.int 99 tc) := ⟨_, rfl⟩
  refine D.callee (D.fn.ok sc_is_state (fun vs H Q E h => ?_) (fun cdv A outer s H vs Q E hr h => ⟨_, PSs.nox (pss_one (ps_ret (L2.pe_and (pe_cl (E := En) c_is_integer (hr.mono (by decide)) rfl passN (pa_cons (pv 0) pa_nil)) (pe_one (pe_chain op_le op_le pe_int (pv 0) (pe_glob rfl g_GREATEST_STATE r_GREATEST_STATE)))))), ?_⟩))
  · obtain ⟨i, rfl, _⟩ := h
    rfl
  · obtain ⟨i, rfl, h0, h9, k⟩ := h
    refine ⟨_, rfl, i, rfl, fun H1 e1 => ⟨true, rfl, ?_⟩⟩
    refine ⟨_, rfl, 0, i, rfl, rfl, decide ((0 : Int) ≤ i), rfl, ?_⟩
    rw [decide_eq_true h0]
    refine ⟨i, 99, rfl, rfl, ?_⟩
    show Q (.bl (decide (i ≤ 99))) H1
    rw [decide_eq_true h9]
    exact k H1 e1
end
end WK

set_option Elab.async false
set_option linter.all false
set_option maxRecDepth 100000
set_option maxHeartbeats 4000000
namespace WK
open PySem PySem.Spec PyProof.Rows L2 WW Evl
section
variable {P : Program} {w : World} {K : PySem.W.Frag} {mg : Str → Option Value} {base : Heap} {f : Addr} {fd : FuncData}
theorem not_both {v : V} (h : isI v = true) : isB v = false := by
  cases v <;> first | rfl | exact nomatch (show false = true from h)
def spIsIntegerG : Sp := fun vs H Q _ => ∃ v, vs = [v] ∧ Pl H v ∧ ∀ H', Ex H H' → Q (.bl (isI v)) H'
theorem okg_is_integer (G : Gz mg) (D : Df K mg "is_integer" s_is_integer f fd ["thing"]) : Callee P w K mg base CXn 1 "is_integer" 1 spIsIntegerG := by
  refine D.callee (D.fn.ok sc_is_integer (fun vs H Q E h => ?_) (fun cdv A outer s H vs Q E hr h => ⟨_, PSs.nox (pss_one (ps_ret (L2.pe_and (pe_callB (isiK (K := K) rfl) rfl G.g_isinstance (by rfl) (pa_cons (pv 0) (pa_cons (pe_bltn (v := .ty "int") rfl G.g_int (by rfl) rfl) pa_nil))) (pe_one (pe_not (pe_callB (isiK (K := K) rfl) rfl G.g_isinstance (by rfl) (pa_cons (pv 0) (pa_cons (pe_bltn (v := .ty "bool") rfl G.g_bool (by rfl) rfl) pa_nil)))))))), ?_⟩))
  · obtain ⟨i, rfl, _⟩ := h
    rfl
  · obtain ⟨v, rfl, hv, k⟩ := h
    obtain ⟨t, g⟩ := hv.kin (K := K)
    have q := k H (Ex.refl _)
    refine ⟨_, rfl, v, .ty "int", t, .type "int", isI v || isB v, rfl, .ty _, g.ty, g.int, isI v || isB v, rfl, ?_⟩
    cases hi : isI v with
    | true =>
      have hb := not_both hi
      rw [hi] at q
      exact ⟨_, rfl, v, .ty "bool", t, .type "bool", false, rfl, .ty _, g.ty, hb ▸ g.bool, false, rfl, q⟩
    | false =>
      rw [hi] at q
      cases hb : isB v with
      | true => exact ⟨_, rfl, v, .ty "bool", t, .type "bool", true, rfl, .ty _, g.ty, hb ▸ g.bool, true, rfl, q⟩
      | false => exact q
def isSt : V → Bool | .int i => decide (0 ≤ i) && decide (i ≤ 99) | _ => false
def spIsStateG : Sp := fun vs H Q _ => ∃ v, vs = [v] ∧ Pl H v ∧ ∀ H', Ex H H' → Q (.bl (isSt v)) H'
theorem okg_is_state (G : Gz mg) (gc : ∃ t, mg "GREATEST_STATE" = some (.int 99 t)) (D : Df K mg "is_state" s_is_state f fd ["thing"]) (c_is_integer : Callee P w K mg base CXn 1 "is_integer" 1 spIsIntegerG) : Callee P w K mg base CXn 2 "is_state" 1 spIsStateG := by
  obtain ⟨tc, g_GREATEST_STATE⟩ := gc
  have r_GREATEST_STATE : RelV (.int 99) (.int 99 tc) := ⟨_, rfl⟩
  refine D.callee (D.fn.ok sc_is_state (fun vs H Q E h => ?_) (fun cdv A outer s H vs Q E hr h => ⟨_, PSs.nox (pss_one (ps_ret (L2.pe_and (pe_cl (E := En) c_is_integer (hr.mono (by decide)) rfl passN (pa_cons (pv 0) pa_nil)) (pe_one (pe_chain op_le op_le pe_int (pv 0) (pe_glob rfl g_GREATEST_STATE r_GREATEST_STATE)))))), ?_⟩))
  · obtain ⟨i, rfl, _⟩ := h
    rfl
  · obtain ⟨v, rfl, hv, k⟩ := h
    refine ⟨_, rfl, v, rfl, hv, fun H1 e1 => ⟨isI v, rfl, ?_⟩⟩
    have q := k H1 e1
    cases v with
    | int i =>
      refine ⟨_, rfl, 0, i, rfl, rfl, decide ((0 : Int) ≤ i), rfl, ?_⟩
      cases hd : decide ((0 : Int) ≤ i) with
      | false =>
        have e : isSt (.int i) = false := by show (decide (0 ≤ i) && decide (i ≤ 99)) = false; rw [hd]; rfl
        rw [e] at q
        exact q
      | true =>
        have e : isSt (.int i) = decide (i ≤ 99) := by show (decide (0 ≤ i) && decide (i ≤ 99)) = _; rw [hd]; rfl
        rw [e] at q
        exact ⟨i, 99, rfl, rfl, q⟩
    | _ => exact q
def spIsRowG : Sp := fun vs H Q _ => ∃ v, vs = [v] ∧ Pl H v ∧ ∀ H', Ex H H' → Q (.bl (isL H v || isT H v)) H'
theorem okg_is_row (G : Gz mg) (D : Df K mg "is_row" s_is_row f fd ["thing"]) : Callee P w K mg base CXn 1 "is_row" 1 spIsRowG := by
  refine D.callee (D.fn.ok sc_is_row (fun vs H Q E h => ?_) (fun cdv A outer s H vs Q E hr h => ⟨_, PSs.nox (pss_one (ps_ret (pe_callB call_isiT rfl G.g_isinstance (by rfl) (pa_cons (pv 0) (pa_cons (pe_tup (pa_cons (pe_bltn (v := .ty "list") rfl G.g_list (by rfl) rfl) (pa_cons (pe_bltn (v := .ty "tuple") rfl G.g_tuple (by rfl) rfl) pa_nil))) pa_nil))))), ?_⟩))
  · obtain ⟨i, rfl, _⟩ := h
    rfl
  · obtain ⟨v, rfl, hv, k⟩ := h
    refine ⟨_, rfl, (by decide), fun p hp => ?_⟩
    have e1 : Ex H (upd H p (.tup [.ty "list", .ty "tuple"])) := Ex.new hp
    obtain ⟨t, g⟩ := (hv.ex e1).kin (K := K)
    have q := k _ e1
    have same : isL (upd H p (.tup [.ty "list", .ty "tuple"])) v = isL H v ∧ isT (upd H p (.tup [.ty "list", .ty "tuple"])) v = isT H v := by
      cases hv with
      | lst h => exact ⟨(isL_at (e1 _ _ h)).trans (isL_at h).symm, (isT_at (e1 _ _ h)).trans (isT_at h).symm⟩
      | tup h => exact ⟨(isL_at (e1 _ _ h)).trans (isL_at h).symm, (isT_at (e1 _ _ h)).trans (isT_at h).symm⟩
      | dct h => exact ⟨(isL_at (e1 _ _ h)).trans (isL_at h).symm, (isT_at (e1 _ _ h)).trans (isT_at h).symm⟩
      | _ => exact ⟨rfl, rfl⟩
    rw [← same.1, ← same.2] at q
    exact ⟨v, p, _, t, [.type "list", .type "tuple"], _, rfl, upd_same, .cons (.ty _) (.cons (.ty _) .nil), g.ty,
      kitAny_cons g.list (fun z => by rw [z]; exact kitAny_cons g.tuple (fun z2 => by rw [z2]; rfl) (fun z2 => by rw [z2]; rfl)) (fun z => by rw [z]; rfl), q⟩
/-- how many items the row v has -/
def rlo : Option HO → Option Nat | some (.lst xs) => some xs.length | some (.tup xs) => some xs.length | _ => none
def rlen (H : Hp) : V → Option Nat | .ref a => rlo (H a) | _ => none
theorem rlen_at {H : Hp} {a : Addr} {o : HO} (h : H a = some o) : rlen H (.ref a) = rlo (some o) := by rw [← h]; rfl
def rowB (H : Hp) (v : V) (l m : Int) : Bool := match rlen H v with
  | some n => decide (l ≤ (n : Int)) && decide ((n : Int) ≤ m)
  | none => false
def spIsRowOfG : Sp := fun vs H Q _ => ∃ v l m, vs = [v, .int l, .int m] ∧ Pl H v ∧ ∀ H', Ex H H' → Q (.bl (rowB H v l m)) H'
theorem okg_is_row_of (G : Gz mg) (D : Df K mg "is_row_of" s_is_row_of f fd ["thing", "least", "most"]) (c_is_row : Callee P w K mg base CXn 1 "is_row" 1 spIsRowG) : Callee P w K mg base CXn 2 "is_row_of" 3 spIsRowOfG := by
  refine D.callee (D.fn.ok sc_is_row_of (fun vs H Q E h => ?_) (fun cdv A outer s H vs Q E hr h => ⟨_, PSs.nox (pss_one (ps_ret (L2.pe_and (pe_cl (E := En) c_is_row (hr.mono (by decide)) rfl passN (pa_cons (pv 0) pa_nil)) (pe_one (pe_chain op_le op_le (pv 1) (pe_callB (lenK (K := K) rfl) rfl G.g_len PySem.boot_len (pa_cons (pv 0) pa_nil)) (pv 2)))))), ?_⟩))
  · obtain ⟨i, _, _, rfl, _⟩ := h
    rfl
  · obtain ⟨v, l, m, rfl, hv, k⟩ := h
    refine ⟨_, rfl, v, rfl, hv, fun H1 e1 => ⟨_, rfl, ?_⟩⟩
    have q := k H1 e1
    cases hv with
    | lst h =>
      rename_i a xs
      have e : rowB H (.ref a) l m = (decide (l ≤ (xs.length : Int)) && decide ((xs.length : Int) ≤ m)) := by unfold rowB; rw [rlen_at h]; rfl
      rw [e] at q
      rw [show (isL H (.ref a) || isT H (.ref a)) = true by rw [show isL H (.ref a) = true from isL_at h]; rfl]
      have hx1 : LenV K (.ref a) H1 xs.length := .inl ⟨xs, sq_of (e1 _ _ h), rfl⟩
      refine ⟨_, rfl, _, rfl, _, _, rfl, hx1, l, _, rfl, rfl, decide (l ≤ (xs.length : Int)), rfl, ?_⟩
      cases hd : decide (l ≤ (xs.length : Int)) with
      | false =>
        rw [hd] at q
        exact q
      | true =>
        rw [hd] at q
        exact ⟨_, rfl, _, _, rfl, rfl, q⟩
    | tup h =>
      rename_i a xs
      have e : rowB H (.ref a) l m = (decide (l ≤ (xs.length : Int)) && decide ((xs.length : Int) ≤ m)) := by unfold rowB; rw [rlen_at h]; rfl
      rw [e] at q
      rw [show (isL H (.ref a) || isT H (.ref a)) = true by rw [show isL H (.ref a) = false from isL_at h, show isT H (.ref a) = true from isT_at h]; rfl]
      have hx1 : LenV K (.ref a) H1 xs.length := .inr ⟨xs, st_of (e1 _ _ h), rfl⟩
      refine ⟨_, rfl, _, rfl, _, _, rfl, hx1, l, _, rfl, rfl, decide (l ≤ (xs.length : Int)), rfl, ?_⟩
      cases hd : decide (l ≤ (xs.length : Int)) with
      | false =>
        rw [hd] at q
        exact q
      | true =>
        rw [hd] at q
        exact ⟨_, rfl, _, _, rfl, rfl, q⟩
    | dct h =>
      rename_i a kvs
      have e : rowB H (.ref a) l m = false := by unfold rowB; rw [rlen_at h]; rfl
      rw [e] at q
      rw [show (isL H (.ref a) || isT H (.ref a)) = false by rw [show isL H (.ref a) = false from isL_at h, show isT H (.ref a) = false from isT_at h]; rfl]
      exact q
    | _ => exact q
def ltB (c : Nat) : Bool := decide (97 ≤ c) && decide (c ≤ 122)
def nmB : V → Bool
  | .str z => decide (1 ≤ (z.length : Int)) && (decide ((z.length : Int) ≤ 10) && z.cps.toList.all fun c => ltB c)
  | _ => false
theorem nmB_str (z : Str) : nmB (.str z) = (decide (1 ≤ (z.length : Int)) && (decide ((z.length : Int) ≤ 10) && z.cps.toList.all fun c => ltB c)) := rfl
/-- a letter of a text -/
def chB : V → Bool
  | .str z => z.cps.toList.all fun c => ltB c
  | _ => true
def spIsNameG : Sp := fun vs H Q _ => ∃ v, vs = [v] ∧ Pl H v ∧ (∀ z, v = .str z → z.length ≤ 1000) ∧ ∀ H', Ex H H' → Q (.bl (nmB v)) H'
theorem okg_is_name (G : Gz mg) (gc : ∃ t, mg "MOST_LETTERS" = some (.int 10 t)) (D : Df K mg "is_name" s_is_name f fd ["thing"]) : Callee P w K mg base CXn 1 "is_name" 1 spIsNameG := by
  obtain ⟨tc, g_MOST_LETTERS⟩ := gc
  have r_MOST_LETTERS : RelV (.int 10) (.int 10 tc) := ⟨_, rfl⟩
  refine D.callee (D.fn.ok sc_is_name (fun vs H Q E h => ?_) (fun cdv A outer s H vs Q E hr h => ⟨_, PSs.nox (pss_cons (ps_if (PW.pt (pw_or (pt_not (pt_val (pe_callB (isiK (K := K) rfl) rfl G.g_isinstance (by rfl) (pa_cons (pv 0) (pa_cons (pe_bltn (v := .ty "str") rfl G.g_str (by rfl) rfl) pa_nil))))) (pw_or1 (pt_not (pt_chain op_le op_le pe_int (pe_callB (lenK (K := K) rfl) rfl G.g_len PySem.boot_len (pa_cons (pv 0) pa_nil)) (pe_glob rfl g_MOST_LETTERS r_MOST_LETTERS)))))) (pss_one (ps_ret pe_bl)) pss_nil) (pss_one (ps_ret (pe_callB (cr_all rfl) rfl G.g_all (by rfl) (pa_cons (pe_lc (own := [("letter", 1)]) rfl sc_is_name.nd (pi_str (pv 0)) (BlkOk.mk (N := ["thing", "letter"]) (sc := defScope s_is_name) rfl (by decide +kernel) (by decide +kernel) (by decide +kernel) (by decide +kernel)) (fun _ _ _ _ _ => (pg_name (i := 1) sc_is_name.nd rfl (Or.inl rfl))) (fun _ _ _ _ _ => pts_nil) (fun _ _ _ _ _ => (pe_chain op_le_str op_le_str pe_str (pv 1) pe_str))) pa_nil))))), ?_⟩))
  · obtain ⟨i, rfl, _⟩ := h
    rfl
  · obtain ⟨v, rfl, hv, hz, k⟩ := h
    obtain ⟨t, g⟩ := hv.kin (K := K)
    refine ⟨_, rfl, v, .ty "str", t, .type "str", isS v, rfl, .ty _, g.ty, g.str, isS v, rfl, ?_⟩
    have q0 := k H (Ex.refl _)
    cases v with
    | str z =>
      have hl : LenV K (.str z) H z.length := ⟨Nat.le_trans (hz z rfl) (by decide), rfl⟩
      refine iteF ⟨_, rfl, .str z, z.length, rfl, hl, 1, (z.length : Int), rfl, rfl, decide ((1 : Int) ≤ (z.length : Int)), rfl, ?_⟩
      cases h1 : decide ((1 : Int) ≤ (z.length : Int)) with
      | false =>
        have e : nmB (.str z) = false := by rw [nmB_str, h1]; rfl
        rw [e] at q0
        exact ⟨false, rfl, iteT q0⟩
      | true =>
        refine ⟨(z.length : Int), 10, rfl, rfl, decide ((z.length : Int) ≤ 10), rfl, ?_⟩
        cases h2 : decide ((z.length : Int) ≤ 10) with
        | false =>
          have e : nmB (.str z) = false := by rw [nmB_str, h1, h2]; rfl
          rw [e] at q0
          exact iteT q0
        | true =>
          have e : nmB (.str z) = z.cps.toList.all fun c => ltB c := by rw [nmB_str, h1, h2]; rfl
          rw [e] at k
          refine iteF ?_
          refine ⟨.str z, rfl, z, rfl, fun D hD => ?_⟩
          refine lc_ev (f := fun _ => true) (v := fun x => .bl (chB x)) st_s (by rw [chs_len]; have := hz z rfl; omega) (fun x => rfl) hD (fun x _ H1 e Q q => q H1 (Ex.refl _)) (fun x hx _ H1 e Q q => ?_) (fun H' e hd => ?_)
          · obtain ⟨c, hm, rfl⟩ : ∃ c, c ∈ z.cps.toList ∧ V.str ⟨#[c]⟩ = x := by unfold chs at hx; simpa using hx
            have q1 := q H1 (Ex.refl _)
            have ec : chB (.str ⟨#[c]⟩) = ltB c := by show ([c].all fun c => ltB c) = _; simp
            rw [ec] at q1
            refine ⟨_, rfl, (Str.ofString "a"), ⟨#[c]⟩, rfl, rfl, _, rfl, ?_⟩
            have e1 : (!decide ((⟨#[c]⟩ : Str).cps.toList < (Str.ofString "a").cps.toList)) = decide (97 ≤ c) := by
              have : (Str.ofString "a").cps.toList = [97] := by decide +kernel
              rw [this]
              rw [Bool.eq_iff_iff]
              simp [List.cons_lt_cons_iff]
            have e2 : (!decide ((Str.ofString "z").cps.toList < (⟨#[c]⟩ : Str).cps.toList)) = decide (c ≤ 122) := by
              have : (Str.ofString "z").cps.toList = [122] := by decide +kernel
              rw [this]
              rw [Bool.eq_iff_iff]
              simp [List.cons_lt_cons_iff]
            rw [e1]
            cases h3 : decide (97 ≤ c) with
            | false =>
              have e4 : ltB c = false := by unfold ltB; rw [h3]; rfl
              rw [e4] at q1
              exact q1
            | true =>
              have e4 : ltB c = decide (c ≤ 122) := by unfold ltB; rw [h3]; rfl
              rw [e4] at q1
              refine ⟨⟨#[c]⟩, (Str.ofString "z"), rfl, rfl, ?_⟩
              rw [e2]
              exact q1
          · refine ⟨D, (chs z).map chB, rfl, sq_of ?_, ?_⟩
            · rw [hd, List.filter_eq_self.mpr (fun _ _ => rfl), List.map_map]
              rfl
            · have e3 : ((chs z).map chB).all id = z.cps.toList.all fun c => ltB c := by
                unfold chs
                rw [List.map_map, List.all_map]
                congr 1
                funext c
                show ([c].all fun c => ltB c) = _
                simp
              rw [e3]
              exact k H' e
    | _ => exact iteT q0
end
end WK

set_option Elab.async false
set_option linter.all false
set_option maxRecDepth 100000
set_option maxHeartbeats 4000000
namespace WK
open PySem PySem.Spec PyProof.Rows L2 WW Evl
section
variable {P : Program} {w : World} {K : PySem.W.Frag} {mg : Str → Option Value} {base : Heap} {f : Addr} {fd : FuncData}
abbrev s_is_step : Stmt := top 18
theorem sc_is_step : FnScope ["thing"] ["thing"] (defScope s_is_step) := ⟨rfl, rfl, rfl, by decide +kernel, rfl, by decide +kernel, by decide +kernel⟩
def stpO : Option HO → Bool
  | some (.tup [x, y, z]) => isSt x && (nmB y && isSt z)
  | _ => false
/-- v is a step -/
def stpB (H : Hp) : V → Bool
  | .ref a => stpO (H a)
  | _ => false
theorem stpB_at {H : Hp} {a : Addr} {o : HO} (h : H a = some o) : stpB H (.ref a) = stpO (some o) := by rw [← h]; rfl
theorem stpO_not {xs : List V} (h : xs.length ≠ 3) : stpO (some (.tup xs)) = false := by
  match xs, h with
  | [], _ => rfl
  | [_], _ => rfl
  | [_, _], _ => rfl
  | [_, _, _], h => exact absurd rfl h
  | _ :: _ :: _ :: _ :: _, _ => rfl
/-- plain, and of plain items, if it is a tuple of three -/
def Pl3 (H : Hp) (v : V) : Prop := Pl H v ∧ ∀ a x y z, v = .ref a → H a = some (.tup [x, y, z]) → Pl H x ∧ Pl H y ∧ Pl H z ∧ ∀ t, y = .str t → t.length ≤ 1000
def spIsStepG : Sp := fun vs H Q _ => ∃ v, vs = [v] ∧ Pl3 H v ∧ ∀ H', Ex H H' → Q (.bl (stpB H v)) H'
theorem okg_is_step (G : Gz mg) (D : Df K mg "is_step" s_is_step f fd ["thing"]) (c_is_state : Callee P w K mg base CXn 2 "is_state" 1 spIsStateG) (c_is_name : Callee P w K mg base CXn 1 "is_name" 1 spIsNameG) : Callee P w K mg base CXn 3 "is_step" 1 spIsStepG := by
  refine D.callee (D.fn.ok sc_is_step (fun vs H Q E h => ?_) (fun cdv A outer s H vs Q E hr h => ⟨_, PSs.nox (pss_cons (ps_if (PW.pt (pw_or (pt_not (pt_val (pe_callB (isiK (K := K) rfl) rfl G.g_isinstance (by rfl) (pa_cons (pv 0) (pa_cons (pe_bltn (v := .ty "tuple") rfl G.g_tuple (by rfl) rfl) pa_nil))))) (pw_or1 (pt_cmpR op_ne (pe_callB (lenK (K := K) rfl) rfl G.g_len PySem.boot_len (pa_cons (pv 0) pa_nil)) pe_int (nomark _))))) (pss_one (ps_ret pe_bl)) pss_nil) (pss_one (ps_ret (L2.pe_and (pe_cl (E := En) c_is_state (hr.mono (by decide)) rfl passN (pa_cons (pe_ix (ixK (K := K) rfl) (pv 0) pe_int (fun _ _ => rfl)) pa_nil)) (L2.pe_and (pe_cl (E := En) c_is_name (hr.mono (by decide)) rfl passN (pa_cons (pe_ix (ixK (K := K) rfl) (pv 0) pe_int (fun _ _ => rfl)) pa_nil)) (pe_one (pe_cl (E := En) c_is_state (hr.mono (by decide)) rfl passN (pa_cons (pe_ix (ixK (K := K) rfl) (pv 0) pe_int (fun _ _ => rfl)) pa_nil)))))))), ?_⟩))
  · obtain ⟨_, rfl, _⟩ := h
    rfl
  · obtain ⟨v, rfl, ⟨hv, h3⟩, k⟩ := h
    obtain ⟨t, g⟩ := hv.kin (K := K)
    have q0 := k H (Ex.refl _)
    refine ⟨_, rfl, v, .ty "tuple", t, .type "tuple", isT H v, rfl, .ty _, g.ty, g.tuple, isT H v, rfl, ?_⟩
    cases hv with
    | tup ha =>
      rename_i a xs
      rw [show isT H (.ref a) = true from isT_at ha]
      by_cases hl : xs.length = 3
      · refine iteF ⟨_, rfl, .ref a, xs.length, rfl, .inr ⟨_, st_of ha, rfl⟩, rfl, false, ?_, iteF ?_⟩
        · show V.bl (!decide (V.int (xs.length : Nat) = V.int 3)) = V.bl false
          rw [hl, decide_eq_true (show V.int ((3 : Nat) : Int) = V.int 3 from rfl)]
          rfl
        match xs, hl with
        | [x, y, z], _ =>
          obtain ⟨px, py, pz, ty⟩ := h3 a x y z rfl ha
          have e : stpB H (.ref a) = (isSt x && (nmB y && isSt z)) := stpB_at ha
          rw [e] at k
          refine ⟨_, rfl, .inr (.inl ⟨a, _, 0, _, rfl, rfl, st_of ha, (by rfl), x, rfl, px, fun H1 e1 => ⟨isSt x, rfl, ?_⟩⟩)⟩
          cases hx : isSt x with
          | false =>
            have q := k H1 e1
            rw [hx] at q
            exact iteF q
          | true =>
            refine iteT ⟨_, rfl, .inr (.inl ⟨a, _, 1, _, rfl, rfl, st_of (e1 _ _ ha), (by rfl), y, rfl, py.ex e1, ty, fun H2 e2 => ⟨nmB y, rfl, ?_⟩⟩)⟩
            cases hy : nmB y with
            | false =>
              have q := k H2 (e1.trans e2)
              rw [hx, hy] at q
              exact iteF q
            | true =>
              refine iteT ⟨_, rfl, .inr (.inl ⟨a, _, 2, _, rfl, rfl, st_of (e2 _ _ (e1 _ _ ha)), (by rfl), z, rfl, pz.ex (e1.trans e2), fun H3 e3 => ?_⟩)⟩
              have q := k H3 (e1.trans (e2.trans e3))
              rw [hx, hy] at q
              exact q
      · refine iteF ⟨_, rfl, .ref a, xs.length, rfl, .inr ⟨_, st_of ha, rfl⟩, rfl, true, ?_, iteT ?_⟩
        · show V.bl (!decide (V.int (xs.length : Nat) = V.int 3)) = V.bl true
          rw [decide_eq_false (fun z => hl (by have := V.int.inj z; omega))]
          rfl
        have e : stpB H (.ref a) = false := (stpB_at ha).trans (stpO_not hl)
        rw [e] at q0
        exact q0
    | lst ha =>
      rename_i a xs
      rw [show isT H (.ref a) = false from isT_at ha]
      rw [show stpB H (.ref a) = false from stpB_at ha] at q0
      exact iteT q0
    | dct ha =>
      rename_i a xs
      rw [show isT H (.ref a) = false from isT_at ha]
      rw [show stpB H (.ref a) = false from stpB_at ha] at q0
      exact iteT q0
    | _ => exact iteT q0
end
end WK

set_option Elab.async false
set_option linter.all false
set_option maxRecDepth 100000
set_option maxHeartbeats 4000000
namespace WK
open PySem PySem.Spec PyProof.Rows L2 WW Evl
def StepAt (H : Hp) (v : V) (t : Stp) : Prop := ∃ a, v = .ref a ∧ H a = some (.tup [.int t.1, .str t.2.1, .int t.2.2])
def Rw (H : Hp) (xs : List V) (ts : List Stp) : Prop := Paired (StepAt H) xs ts
def GoodStep (t : Stp) : Prop := 0 ≤ t.1 ∧ t.1 ≤ 99 ∧ IsNm t.2.1 ∧ 0 ≤ t.2.2 ∧ t.2.2 ≤ 99
/-- the steps before it that begin where it does -/
def cnt (t : Stp) (ts : List Stp) : Nat := (ts.filter fun u => u.1 == t.1).length
theorem ok_of_nm {z : Str} (h : IsNm z) : PyData.strOk z = true := by
  unfold PyData.strOk
  rw [Array.all_eq_true_iff_forall_mem]
  intro c hc
  have := h.2.2 c (by simpa using hc)
  exact decide_eq_true (by omega)
theorem GoodStep.ok {t : Stp} (h : GoodStep t) : OkS t := ok_of_nm h.2.2.1
structure GoodRow (ts : List Stp) : Prop where
  least : 1 ≤ ts.length
  most : ts.length ≤ 20
  good : ∀ t ∈ ts, GoodStep t
  nd : ts.Nodup
  few : ∀ t ∈ ts, cnt t ts ≤ 3
theorem Rw.ex {H H' : Hp} {xs : List V} {ts : List Stp} (e : Ex H H') (h : Rw H xs ts) : Rw H' xs ts := Paired.mapP h fun v t ⟨a, e1, e2⟩ => ⟨a, e1, e _ _ e2⟩
theorem Rw.len {H : Hp} {xs : List V} {ts : List Stp} (h : Rw H xs ts) : xs.length = ts.length := Paired.length h
theorem Rw.at {H : Hp} : ∀ {xs : List V} {ts : List Stp} {i : Nat} {x : V}, Rw H xs ts → xs[i]? = some x → ∃ t, ts[i]? = some t ∧ StepAt H x t
  | _, _, i, _, .nil, e => by simp at e
  | _, _, 0, _, .cons g _, e => by simp at e; subst e; exact ⟨_, rfl, g⟩
  | _, _, i + 1, _, .cons _ r, e => by simpa using Rw.at r (by simpa using e)
theorem Rw.take {H : Hp} : ∀ {xs : List V} {ts : List Stp} (n : Nat), Rw H xs ts → Rw H (xs.take n) (ts.take n)
  | _, _, 0, _ => by simp; exact .nil
  | _, _, n + 1, .nil => by simp; exact .nil
  | _, _, n + 1, .cons g r => by simp only [List.take_succ_cons]; exact .cons g (Rw.take n r)
theorem StepAt.dp {K : PySem.W.Frag} {H : Hp} {v : V} {t : Stp} (h : StepAt H v t) : Dp K H v (encS t) := by
  obtain ⟨a, rfl, ha⟩ := h
  exact .tup (st_of ha) (.cons (.int _) (.cons (.str _) (.cons (.int _) .nil)))
theorem Rw.dps {K : PySem.W.Frag} {H : Hp} : ∀ {xs : List V} {ts : List Stp}, Rw H xs ts → DpAll K H xs (ts.map encS)
  | _, _, .nil => .nil
  | _, _, .cons g r => .cons g.dp (Rw.dps r)
/-- the value begins at the state i -/
def hit (H : Hp) (i : Int) : V → Bool
  | .ref b => (match H b with
    | some (.tup (.int j :: _)) => j == i
    | _ => false)
  | _ => false
theorem hit_at {H : Hp} {v : V} {t : Stp} {i : Int} (h : StepAt H v t) : hit H i v = (t.1 == i) := by
  obtain ⟨a, rfl, ha⟩ := h
  show (match H a with
    | some (.tup (.int j :: _)) => j == i
    | _ => false) = (t.1 == i)
  rw [ha]
theorem hit_len {H : Hp} {i : Int} : ∀ {xs : List V} {ts : List Stp}, Rw H xs ts → (xs.filter (hit H i)).length = (ts.filter fun u => u.1 == i).length
  | _, _, .nil => rfl
  | _, _, .cons (a := x) (b := t) g r => by
    rw [List.filter_cons, List.filter_cons, hit_at g]
    have ih := hit_len (i := i) r
    cases t.1 == i <;> simp [ih]
/-- t in that row -/
theorem in_go {K : PySem.W.Frag} {H : Hp} {p : Addr} {ys : List V} {us : List Stp} {x : V} {t : Stp} {Q : VK} (hx : StepAt H x t) (hp : SqX H p ys) (hy : Rw H ys us) (ho : ∀ z ∈ us, OkS z) (ht : OkS t) (q : Q (.bl (decide (t ∈ us))) H) : rInD K x (.ref p) H Q ∨ rInDT K x (.ref p) H Q := by
  rcases hp with hp | hp
  · exact .inl ⟨encS t, us.map encS, hx.dp, .lst (sq_of hp) hy.dps, encS_shaped ht, encSs_shaped ho, by rw [encSs_any]; exact q⟩
  · exact .inr ⟨encS t, us.map encS, hx.dp, .tup (st_of hp) hy.dps, encS_shaped ht, encSs_shapedT ho, by rw [encSs_any]; exact q⟩
theorem nd_take {ts : List Stp} {i : Nat} {t : Stp} (nd : ts.Nodup) (h : ts[i]? = some t) : t ∉ ts.take i := fun m => by
  obtain ⟨j, hj⟩ := List.getElem?_of_mem m
  have hj2 : j < i ∧ ts[j]? = some t := by
    rw [List.getElem?_take] at hj
    split at hj
    · exact ⟨by assumption, hj⟩
    · cases hj
  have hi := (List.getElem?_eq_some_iff.mp h)
  have hjj := (List.getElem?_eq_some_iff.mp hj2.2)
  obtain ⟨l1, e1⟩ := hi
  obtain ⟨l2, e2⟩ := hjj
  have := (List.getElem_inj nd (h₀ := l1) (h₁ := l2)).mp (e1.trans e2.symm)
  omega
theorem cnt_take {ts : List Stp} {i : Nat} {t : Stp} (h : ts[i]? = some t) : cnt t (ts.take i) + 1 ≤ cnt t ts := by
  have e : ts = ts.take i ++ t :: ts.drop (i + 1) := by
    obtain ⟨l1, e1⟩ := List.getElem?_eq_some_iff.mp h
    rw [← e1, List.getElem_cons_drop, List.take_append_drop]
  unfold cnt
  conv => rhs; rw [e]
  rw [List.filter_append, List.length_append, List.filter_cons]
  simp
section
variable {P : Program} {w : World} {K : PySem.W.Frag} {mg : Str → Option Value} {base : Heap} {f : Addr} {fd : FuncData}
abbrev s_is_one_too_many : Stmt := top 19
theorem sc_is_one_too_many : FnScope ["step", "earlier", "one"] ["step", "earlier"] (defScope s_is_one_too_many) := ⟨rfl, rfl, rfl, by decide +kernel, rfl, by decide +kernel, by decide +kernel⟩
def spTooMany : Sp := fun vs H Q _ => ∃ v t a xs ts, vs = [v, .ref a] ∧ StepAt H v t ∧ SqX H a xs ∧ Rw H xs ts ∧ ts.length ≤ 1000 ∧ ∀ H', Ex H H' → Q (.bl (decide (3 ≤ (cnt t ts : Int)))) H'
theorem ok_is_one_too_many (G : Gz mg) (gc : ∃ t, mg "MOST_STEPS_AT_ONE_STATE" = some (.int 3 t)) (D : Df K mg "is_one_too_many" s_is_one_too_many f fd ["step", "earlier"]) : Callee P w K mg base CXn 1 "is_one_too_many" 2 spTooMany := by
  obtain ⟨tc, g_MOST_STEPS_AT_ONE_STATE⟩ := gc
  have r_MOST_STEPS_AT_ONE_STATE : RelV (.int 3) (.int 3 tc) := ⟨_, rfl⟩
  refine D.callee (D.fn.ok sc_is_one_too_many (fun vs H Q E h => ?_) (fun cdv A outer s H vs Q E hr h => ⟨_, PSs.nox (pss_one (ps_ret (pe_cmpR op_ge (pe_callB (lenK (K := K) rfl) rfl G.g_len PySem.boot_len (pa_cons (pe_lc (own := [("one", 2)]) rfl sc_is_one_too_many.nd (pi_or (pi_list (pv 1)) (pi_tup (pv 1))) (BlkOk.mk (N := ["step", "earlier", "one"]) (sc := defScope s_is_one_too_many) rfl (by decide +kernel) (by decide +kernel) (by decide +kernel) (by decide +kernel)) (fun _ _ _ _ _ => (pg_name (i := 2) sc_is_one_too_many.nd rfl (Or.inl rfl))) (fun _ _ _ _ _ => (pts_one (pt_cmpR op_eq (pe_ix (ixK (K := K) rfl) (pv 2) pe_int (fun _ _ => rfl)) (pe_ix (ixK (K := K) rfl) (pv 0) pe_int (fun _ _ => rfl)) (nomark _)))) (fun _ _ _ _ _ => (pv 2))) pa_nil)) (pe_glob rfl g_MOST_STEPS_AT_ONE_STATE r_MOST_STEPS_AT_ONE_STATE) (nomark _)))), ?_⟩))
  · obtain ⟨_, _, _, _, _, rfl, _⟩ := h
    rfl
  · obtain ⟨v, t, a, xs, ts, rfl, hv, hx, hr2, hz, k⟩ := h
    have hxl := hr2.len
    refine iseq_go rfl hx fun J S D hD => ?_
    refine lc_ev (f := hit H t.1) (v := fun x => x) S (by omega) (fun x => rfl) hD (fun x mx H1 e Q q => ?_) (fun x mx _ H1 e Q q => ⟨_, rfl, q H1 (Ex.refl _)⟩) (fun H' e hd => ?_)
    · obtain ⟨i, hi⟩ := List.getElem?_of_mem mx
      obtain ⟨u, hu, b, rfl, hb⟩ := hr2.at hi
      obtain ⟨c, rfl, hc⟩ := hv
      refine ⟨_, rfl, .inr (.inl ⟨b, _, 0, _, rfl, rfl, st_of (e _ _ hb), (by rfl), ?_⟩)⟩
      refine ⟨_, rfl, .inr (.inl ⟨c, _, 0, _, rfl, rfl, st_of (e _ _ hc), (by rfl), rfl, _, rfl, ?_⟩)⟩
      have e1 : decide (V.int u.1 = V.int t.1) = hit H t.1 (.ref b) := by
        rw [hit_at (t := u) ⟨b, rfl, hb⟩, Bool.eq_iff_iff]
        simp
      rw [e1]
      exact q H1 (Ex.refl _)
    · refine ⟨.ref D, _, rfl, .inl ⟨_, sq_of hd, rfl⟩, _, _, rfl, rfl, ?_⟩
      have e2 : (((xs.filter (hit H t.1)).map fun x => x).length : Int) = (cnt t ts : Int) := by
        rw [List.length_map, hit_len hr2]
        rfl
      show Q (.bl (decide ((3 : Int) ≤ (((xs.filter (hit H t.1)).map fun x => x).length : Int)))) H'
      rw [e2]
      exact k H' e
abbrev s_check_steps : Stmt := top 17
theorem sc_check_steps : FnScope ["steps", "at", "step"] ["steps"] (defScope s_check_steps) := ⟨rfl, rfl, rfl, by decide +kernel, rfl, by decide +kernel, by decide +kernel⟩
theorem paired_at {α β : Type} {R : α → β → Prop} : ∀ {xs : List α} {os : List β} {i : Nat} {x : α}, Paired R xs os → xs[i]? = some x → ∃ o, os[i]? = some o ∧ R x o
  | _, _, i, _, .nil, e => by simp at e
  | _, _, 0, _, .cons g _, e => by simp at e; subst e; exact ⟨_, rfl, g⟩
  | _, _, i + 1, _, .cons _ r, e => by simpa using paired_at r (by simpa using e)
theorem rw_snoc {H : Hp} {x : V} {t : Stp} (g : StepAt H x t) : ∀ {xs : List V} {ts : List Stp}, Rw H xs ts → Rw H (xs ++ [x]) (ts ++ [t])
  | _, _, .nil => .cons g .nil
  | _, _, .cons a r => .cons a (rw_snoc g r)
/-- the first wrong place, with the steps before it -/
def fb (seen : List Stp) (i : Nat) : List (Option Stp) → Option Nat
  | [] => none
  | none :: _ => some i
  | some t :: r => if t ∈ seen ∨ 3 ≤ cnt t seen then some i else fb (seen ++ [t]) (i + 1) r
/-- v is the step o, or none -/
structure ItAt (H : Hp) (v : V) (o : Option Stp) : Prop where
  pl : Pl3 H v
  is : stpB H v = o.isSome
  at_ : ∀ t, o = some t → StepAt H v t ∧ GoodStep t
theorem pl_had {H H' : Hp} {v : V} (e : Ex H H') (h : Pl H v) {a : Addr} {o : HO} (ev : v = .ref a) (h' : H' a = some o) : H a = some o := by
  cases h with
  | lst g => cases ev; rw [e _ _ g] at h'; cases h'; exact g
  | tup g => cases ev; rw [e _ _ g] at h'; cases h'; exact g
  | dct g => cases ev; rw [e _ _ g] at h'; cases h'; exact g
  | _ => cases ev
theorem Pl3.ex {H H' : Hp} {v : V} (e : Ex H H') (h : Pl3 H v) : Pl3 H' v := ⟨h.1.ex e, fun a x y z ev h' => by
  obtain ⟨p, q, r, t⟩ := h.2 a x y z ev (pl_had e h.1 ev h')
  exact ⟨p.ex e, q.ex e, r.ex e, t⟩⟩
theorem stpB_ex {H H' : Hp} {v : V} (e : Ex H H') (h : Pl H v) : stpB H' v = stpB H v := by
  cases h with
  | lst g => rw [stpB_at g, stpB_at (e _ _ g)]
  | tup g => rw [stpB_at g, stpB_at (e _ _ g)]
  | dct g => rw [stpB_at g, stpB_at (e _ _ g)]
  | _ => rfl
def spCheckG (C : Addr) : Sp := fun vs H Q E => ∃ v, vs = [v] ∧ Pl H v ∧ (rowB H v 1 20 = false → ∀ H' d, Ex H H' → H' d = none → E (.ref C) (some d) (upd H' d (.xd [("at", .int (-1))]))) ∧
  (rowB H v 1 20 = true → ∃ a xs os, v = .ref a ∧ SqX H a xs ∧ xs.length ≤ 20 ∧ Paired (ItAt H) xs os ∧ (∀ i : Nat, fb [] 0 os = some i → ∀ H' d, Ex H H' → H' d = none → E (.ref C) (some d) (upd H' d (.xd [("at", .int i)]))) ∧ (fb [] 0 os = none → ∀ H', Ex H H' → Q .non H'))
theorem okg_check_steps {C_BadSteps : Addr} (G : Gz mg) (gc : ∃ t, mg "MOST_STEPS" = some (.int 20 t)) (D : Df K mg "check_steps" s_check_steps f fd ["steps"]) (X_BadSteps : ExR P w K mg base 1 "BadSteps" C_BadSteps "at") (c_is_row_of : Callee P w K mg base CXn 2 "is_row_of" 3 spIsRowOfG) (c_is_step : Callee P w K mg base CXn 3 "is_step" 1 spIsStepG) (c_is_one_too_many : Callee P w K mg base CXn 1 "is_one_too_many" 2 spTooMany) : Callee P w K mg base (L2.CX P w) 4 "check_steps" 1 (spCheckG C_BadSteps) := by
  obtain ⟨tc, g_MOST_STEPS⟩ := gc
  have r_MOST_STEPS : RelV (.int 20) (.int 20 tc) := ⟨_, rfl⟩
  refine D.callee (D.fn.ok sc_check_steps (fun vs H Q E h => ?_) (fun cdv A outer s H vs Q E hr h => ⟨_, (pss_cons (ps_if (pt_not (pt_val (pe_cl (E := En) c_is_row_of (hr.mono (by decide)) rfl passN (pa_cons (pv 0) (pa_cons pe_int (pa_cons (pe_glob rfl g_MOST_STEPS r_MOST_STEPS) pa_nil)))))) (pss_one (ps_raiseE X_BadSteps rfl (hr.mono (by decide)) (takes_of rfl rfl rfl rfl) rfl (pe_un un_neg pe_int))) pss_nil) (pss_one (ps_for (passes_of rfl) rfl (pi_or (pi_enum rfl G.g_enumerate (pa_cons (pv 0) pa_nil)) (pi_enumT rfl G.g_enumerate (pa_cons (pv 0) pa_nil))) (pg_tup rfl (pgs_cons (pg_name (i := 1) sc_check_steps.nd rfl (Or.inl rfl)) (pgs_cons (pg_name (i := 2) sc_check_steps.nd rfl (Or.inl rfl)) pgs_nil))) (pss_one (ps_if (PW.pt (pw_or (pt_not (pt_val (pe_cl (E := En) c_is_step (hr.mono (by decide)) rfl passN (pa_cons (pv 2) pa_nil)))) (pw_or (pt_cmpR ((op_inD (room65 hr)).or (op_inDT (room65 hr))) (pv 2) (pe_slice (sl_list.or sl_tupA) (pv 0) po_none (po_some (pv 1))) (by rfl)) (pw_or1 (pt_val (pe_cl (E := En) c_is_one_too_many (hr.mono (by decide)) rfl passN (pa_cons (pv 2) (pa_cons (pe_slice (sl_list.or sl_tupA) (pv 0) po_none (po_some (pv 1))) pa_nil)))))))) (pss_one (ps_raiseE X_BadSteps rfl (hr.mono (by decide)) (takes_of rfl rfl rfl rfl) rfl (pv 1))) pss_nil))))), ?_⟩))
  · obtain ⟨_, rfl, _⟩ := h
    rfl
  · obtain ⟨v, rfl, hv, hno, hyes⟩ := h
    refine ⟨_, rfl, v, 1, 20, rfl, hv, fun H1 e1 => ⟨_, rfl, ?_⟩⟩
    cases hrow : rowB H v 1 20 with
    | false =>
      refine iteT ?_
      refine ⟨1, rfl, ?_⟩
      exact raise_go fun d hd => hno hrow H1 d e1 hd
    | true =>
      obtain ⟨a, xs, os, rfl, hx, hmo, hw, hbad, hgood⟩ := hyes hrow
      have hxl := Paired.length hw
      refine iteF ?_
      refine ienum_go rfl (hx.ex e1) fun J S => ?_
      refine for_go (n := xs.length) (fun i σ' H' => Ex H1 H' ∧ (∃ v1 v2, σ' = [some (.ref a), v1, v2]) ∧ ∃ ts, Rw H (xs.take i) ts ∧ (∀ t ∈ ts, GoodStep t) ∧ fb [] 0 os = fb ts i (os.drop i))
        ⟨Ex.refl _, ⟨none, none, rfl⟩, [], by simp; exact .nil, fun _ z => absurd z (by simp), rfl⟩ (fun i σ' H' hi ⟨e, _⟩ => S.go i H' e hi) (fun σ' H' ⟨e, _⟩ => S.stop H' e) ?_ (fun σ' H' ⟨e, _, ts, _, _, hfb⟩ => hgood (by rw [hfb, hxl, List.drop_length]; rfl) H' (e1.trans e))
      rintro i σ' H' v H'' hi ⟨e, ⟨v1, v2, rfl⟩, ts, hts, gts, hfb⟩ y
      obtain ⟨T, x, rfl, hT, rfl, hxi⟩ := S.yld i H' v H'' e hi y
      have e2 : Ex H1 (upd H' T (.tup [.int (i : Nat), x])) := e.trans (Ex.new hT)
      refine ⟨T, _, rfl, st_of upd_same, rfl, _, _, rfl, _, _, rfl, rfl, ?_⟩
      generalize upd H' T (.tup [.int (i : Nat), x]) = H2 at e2
      have eH : ∀ {H3}, Ex H2 H3 → Ex H H3 := fun e3 => e1.trans (e2.trans e3)
      have hio : i < os.length := by omega
      have hdr : os.drop i = os[i] :: os.drop (i + 1) := List.drop_eq_getElem_cons hio
      have hit : ItAt H x os[i] := by
        obtain ⟨o, ho, hi2⟩ := paired_at hw hxi
        rw [List.getElem?_eq_getElem hio] at ho
        cases ho
        exact hi2
      rw [hdr] at hfb
      generalize hoi : os[i] = o at hfb hit
      refine ⟨_, rfl, x, rfl, hit.pl.ex (eH (Ex.refl _)), fun H3 e3 => ⟨_, rfl, ?_⟩⟩
      rw [stpB_ex (eH (Ex.refl _)) hit.pl.1, hit.is]
      have lost : fb [] 0 os = some i → ∀ H4, Ex H2 H4 → ∀ d, H4 d = none → E (.ref C_BadSteps) (some d) (upd H4 d (.xd [("at", .int (i : Nat))])) := fun z H4 e4 d hd => hbad i z H4 d (eH e4) hd
      cases o with
      | none =>
        refine iteT ⟨_, rfl, ?_⟩
        exact raise_go fun d hd => lost hfb H3 e3 d hd
      | some t =>
        obtain ⟨⟨b, rfl, hb⟩, gt⟩ := hit.at_ t rfl
        refine iteF ?_
        refine ⟨_, rfl, _, rfl, _, rfl, _, rfl, slx_take (hx.ex (eH e3)) (Nat.le_of_lt hi) fun q H4 e4 hq => ?_⟩
        have e24 : Ex H2 H4 := e3.trans e4
        refine in_go ⟨b, rfl, eH e24 _ _ hb⟩ hq (hts.ex (eH e24)) (fun z hz => (gts z hz).ok) gt.ok ?_
        by_cases m : t ∈ ts
        · rw [decide_eq_true m]
          refine ⟨true, rfl, iteT ⟨_, rfl, ?_⟩⟩
          exact raise_go fun d hd => lost (hfb.trans (if_pos (.inl m))) H4 e24 d hd
        rw [decide_eq_false m]
        refine ⟨false, rfl, iteF ?_⟩
        refine ⟨_, rfl, _, rfl, _, rfl, _, rfl, slx_take (hx.ex (eH e24)) (Nat.le_of_lt hi) fun q2 H5 e5 hq2 => ?_⟩
        have e25 : Ex H2 H5 := e24.trans e5
        have lts : ts.length ≤ 1000 := by
          rw [← hts.len, List.length_take]
          omega
        refine ⟨.ref b, t, q2, _, _, rfl, ⟨b, rfl, eH e25 _ _ hb⟩, hq2, hts.ex (eH e25), lts, fun H6 e6 => ⟨_, rfl, ?_⟩⟩
        by_cases c : 3 ≤ cnt t ts
        · rw [decide_eq_true (show (3 : Int) ≤ (cnt t ts : Int) by omega)]
          refine iteT ⟨_, rfl, ?_⟩
          exact raise_go fun d hd => lost (hfb.trans (if_pos (.inr c))) H6 (e25.trans e6) d hd
        · rw [decide_eq_false (show ¬ (3 : Int) ≤ (cnt t ts : Int) by omega)]
          refine iteF ⟨e2.trans (e25.trans e6), ⟨_, _, rfl⟩, ts ++ [t], ?_, ?_, hfb.trans (if_neg (fun z => z.elim m c))⟩
          · have et : xs.take (i + 1) = xs.take i ++ [.ref b] := by rw [List.take_add_one, hxi]; rfl
            rw [et]
            exact rw_snoc ⟨b, rfl, hb⟩ hts
          · intro u hu
            rcases List.mem_append.mp hu with hu | hu
            · exact gts u hu
            · rw [List.mem_singleton.mp hu]; exact gt
end
end WK

set_option Elab.async false
set_option linter.all false
set_option maxRecDepth 100000
set_option maxHeartbeats 4000000
namespace WK
open PySem PySem.Spec PyProof.Rows L2 WW Evl
section
variable {P : Program} {w : World} {K : PySem.W.Frag} {mg : Str → Option Value} {base : Heap} {f : Addr} {fd : FuncData}
def hf (st : Int) (tp wl ol : Addr) : List (Str × V) := putF "_ordered_steps" (.ref ol) (putF "_words" (.ref wl) (putF "_steps" (.ref tp) (putF "_start" (.int st) [])))
theorem s12 : ¬ (("_start" : Str) = "_steps") := by decide +kernel
theorem s13 : ¬ (("_start" : Str) = "_words") := by decide +kernel
theorem s14 : ¬ (("_start" : Str) = "_ordered_steps") := by decide +kernel
theorem s23 : ¬ (("_steps" : Str) = "_words") := by decide +kernel
theorem s24 : ¬ (("_steps" : Str) = "_ordered_steps") := by decide +kernel
theorem s34 : ¬ (("_words" : Str) = "_ordered_steps") := by decide +kernel
section
variable {st : Int} {tp wl ol : Addr}
theorem hf1 : (hf st tp wl ol).lookup ("_start" : Str) = some (.int st) := by unfold hf; rw [lookup_putF, if_neg s14, lookup_putF, if_neg s13, lookup_putF, if_neg s12, lookup_putF, if_pos rfl]
theorem hf2 : (hf st tp wl ol).lookup ("_steps" : Str) = some (.ref tp) := by unfold hf; rw [lookup_putF, if_neg s24, lookup_putF, if_neg s23, lookup_putF, if_pos rfl]
theorem hf3 : (hf st tp wl ol).lookup ("_words" : Str) = some (.ref wl) := by unfold hf; rw [lookup_putF, if_neg s34, lookup_putF, if_pos rfl]
theorem hf4 : (hf st tp wl ol).lookup ("_ordered_steps" : Str) = some (.ref ol) := by unfold hf; rw [lookup_putF, if_pos rfl]
end
/-- what stands of a hand -/
def HandAt (C : Addr) (H : Hp) (p : Addr) (st : Int) (ts : List Stp) : Prop := ∃ dx tp wl ol xs ys, H p = some (.ins C dx (hf st tp wl ol)) ∧
  H tp = some (.tup xs) ∧ Rw H xs ts ∧ (∃ ks, ks.Nodup ∧ (∀ k, k ∈ ks ↔ k ∈ ts.map (·.2.1)) ∧ H wl = some (.lst ((sortS ks).map V.str))) ∧ H ol = some (.lst ys) ∧ Rw H ys (sortT ts)
/-- the same, with its lists new since H0 -/
def HandAtN (C : Addr) (H0 H : Hp) (p : Addr) (st : Int) (ts : List Stp) : Prop := ∃ dx tp wl ol xs ys, H p = some (.ins C dx (hf st tp wl ol)) ∧
  H tp = some (.tup xs) ∧ Rw H xs ts ∧ (∃ ks, ks.Nodup ∧ (∀ k, k ∈ ks ↔ k ∈ ts.map (·.2.1)) ∧ H wl = some (.lst ((sortS ks).map V.str))) ∧ H ol = some (.lst ys) ∧ Rw H ys (sortT ts) ∧ H0 wl = none ∧ H0 ol = none
theorem HandAtN.at {C : Addr} {H0 H : Hp} {p : Addr} {st : Int} {ts : List Stp} (h : HandAtN C H0 H p st ts) : HandAt C H p st ts := by
  obtain ⟨dx, tp, wl, ol, xs, ys, h1, h2, h3, h4, h5, h6, _, _⟩ := h
  exact ⟨dx, tp, wl, ol, xs, ys, h1, h2, h3, h4, h5, h6⟩
structure Hd (K : PySem.W.Frag) (mg : Str → Option Value) (C : Addr) : Prop where
  cl : Cls K C
  at_ : mg "Hand" = some (.ref C)
  n1 : NoAttr K C "_start"
  n2 : NoAttr K C "_steps"
  n3 : NoAttr K C "_words"
  n4 : NoAttr K C "_ordered_steps"
  isa : ∀ (H : Hp) (a dx : Addr) (fs : List (Str × V)), H a = some (.ins C dx fs) → TyOf K H (.ref a) (.ref C)
/-- the word of a step -/
def wd (H : Hp) : V → Str
  | .ref b => (match H b with
    | some (.tup (_ :: .str z :: _)) => z
    | _ => Str.empty)
  | _ => Str.empty
theorem wd_at {H : Hp} {v : V} {t : Stp} (h : StepAt H v t) : wd H v = t.2.1 := by
  obtain ⟨a, rfl, ha⟩ := h
  show (match H a with
    | some (.tup (_ :: .str z :: _)) => z
    | _ => Str.empty) = t.2.1
  rw [ha]
theorem wd_map {H : Hp} : ∀ {xs : List V} {ts : List Stp}, Rw H xs ts → xs.map (wd H) = ts.map (·.2.1)
  | _, _, .nil => rfl
  | _, _, .cons g r => by rw [List.map_cons, List.map_cons, wd_at g, wd_map r]
/-- sorted(a row) -/
theorem sort_go {K : PySem.W.Frag} {H : Hp} {a : Addr} {xs : List V} {ts : List Stp} {Q : VK} (hx : SqX H a xs) (hw : Rw H xs ts) (k : ∀ ys p H', Ex H H' → H p = none → H' p = some (.lst ys) → Rw H' ys (sortT ts) → Q (.ref p) H') : rOr3 (rSortD K encS) (rSortDT K encS) [.ref a] H Q := by
  have hp : Paired (fun v b => StepAt H v b ∧ DpE K H encS v b) xs ts := Paired.mapP hw fun v b h => ⟨h, h.dp⟩
  have fin : ∀ (ys : List V) (p : Addr), Paired (StepAt H) ys (ts.mergeSort (PySem.W.dataLe false encS)) → H p = none → Q (.ref p) (upd H p (.lst ys)) := fun ys p hy hn =>
    k ys p _ (Ex.new hn) hn upd_same (Rw.ex (Ex.new hn) (show Rw H ys (sortT ts) from hy))
  rcases hx with hx | hx
  · exact .inl ⟨a, xs, ts, StepAt H, rfl, sq_of hx, hp, encS_alike, encS_sortable ts, fun b => Nat.le_trans (encS_depth b) (by decide), fin⟩
  · exact .inr ⟨a, xs, ts, StepAt H, rfl, st_of hx, hp, encS_alike, encS_sortable ts, fun b => Nat.le_trans (encS_depth b) (by decide), fin⟩
abbrev s_Hand___init__ : Stmt := inClass (top 16) 0
theorem sc_Hand___init__ : FnScope ["self", "start", "steps", "step"] ["self", "start", "steps"] (defScope s_Hand___init__) := ⟨rfl, rfl, rfl, by decide +kernel, rfl, by decide +kernel, by decide +kernel⟩
theorem rowB_ex {H H' : Hp} {v : V} {l m : Int} (e : Ex H H') (h : Pl H v) : rowB H' v l m = rowB H v l m := by
  have r : rlen H' v = rlen H v := by
    cases h with
    | lst g => rw [rlen_at g, rlen_at (e _ _ g)]
    | tup g => rw [rlen_at g, rlen_at (e _ _ g)]
    | dct g => rw [rlen_at g, rlen_at (e _ _ g)]
    | _ => rfl
  unfold rowB
  rw [r]
theorem ItAt.ex {H H' : Hp} {v : V} {o : Option Stp} (e : Ex H H') (h : ItAt H v o) : ItAt H' v o := ⟨Pl3.ex e h.pl, (stpB_ex e h.pl.1).trans h.is, fun t z => by
  obtain ⟨⟨b, q, r⟩, g⟩ := h.at_ t z
  exact ⟨⟨b, q, e _ _ r⟩, g⟩⟩
theorem fb_some : ∀ {os : List (Option Stp)} {seen : List Stp} {i : Nat}, fb seen i os = none → ∃ ts : List Stp, os = ts.map some
  | [], _, _, _ => ⟨[], rfl⟩
  | none :: _, _, _, h => nomatch (show some _ = none from h)
  | some t :: r, seen, i, h => by
    by_cases z : t ∈ seen ∨ 3 ≤ cnt t seen
    · exact nomatch (show some i = none from (if_pos z).symm.trans h)
    · obtain ⟨ts, e⟩ := fb_some (os := r) (seen := seen ++ [t]) (i := i + 1) ((if_neg z).symm.trans h)
      exact ⟨t :: ts, by rw [e]; rfl⟩
theorem rw_of {H : Hp} : ∀ {xs : List V} {ts : List Stp}, Paired (ItAt H) xs (ts.map some) → Rw H xs ts
  | [], [], _ => .nil
  | _ :: _, t :: _, .cons g r => .cons (g.at_ t rfl).1 (rw_of r)
def spInitG (C CS CB : Addr) : Sp := fun vs H Q E => ∃ H0 p dx v1 v2, vs = [.ref p, v1, v2] ∧ Ex H0 H ∧ H0 p = none ∧ H p = some (.ins C dx []) ∧ Pl H0 v1 ∧ Pl H0 v2 ∧
  (isSt v1 = false → ∀ H' d, Ex H0 H' → H' d = none → E (.ref CS) (some d) (upd H' d (.xd [("value", v1)]))) ∧
  (isSt v1 = true → rowB H0 v2 1 20 = false → ∀ H' d, Ex H0 H' → H' d = none → E (.ref CB) (some d) (upd H' d (.xd [("at", .int (-1))]))) ∧
  (isSt v1 = true → rowB H0 v2 1 20 = true → ∃ a xs os, v2 = .ref a ∧ SqX H0 a xs ∧ xs.length ≤ 20 ∧ Paired (ItAt H0) xs os ∧ (∀ i : Nat, fb [] 0 os = some i → ∀ H' d, Ex H0 H' → H' d = none → E (.ref CB) (some d) (upd H' d (.xd [("at", .int i)]))) ∧
    (fb [] 0 os = none → ∀ st ts, v1 = .int st → os = ts.map some → ∀ H', Ex H0 H' → HandAtN C H0 H' p st ts → Q .non H'))
theorem okg_init {C C_BadStart C_BadSteps : Addr} (G : Gz mg) (T : Hd K mg C) (D : FunD K "__init__" "Hand.__init__" (defArgs s_Hand___init__) (defBody s_Hand___init__) (defScope s_Hand___init__) [] [] f fd) (X_BadStart : ExR P w K mg base 1 "BadStart" C_BadStart "value")
    (c_is_state : Callee P w K mg base CXn 2 "is_state" 1 spIsStateG) (c_check_steps : Callee P w K mg base (L2.CX P w) 4 "check_steps" 1 (spCheckG C_BadSteps)) : FnOk P w K mg base (L2.CX P w) 5 f fd ["self", "start", "steps"] (spInitG C C_BadStart C_BadSteps) := by
  refine D.ok sc_Hand___init__ (fun vs H Q E h => ?_) (fun cdv A outer s H vs Q E hr h => ⟨_, (pss_cons (ps_if (pt_not (pt_val (pe_cl (E := En) c_is_state (hr.mono (by decide)) rfl passN (pa_cons (pv 1) pa_nil)))) (pss_one (ps_raiseE X_BadStart rfl (hr.mono (by decide)) (takes_of rfl rfl rfl rfl) rfl (pv 1))) pss_nil) (pss_cons (ps_expr (pe_clS c_check_steps (hr.mono (by decide)) rfl (fun σ => passAt (takes_of rfl rfl rfl rfl) σ) (pa_cons (pv 2) pa_nil))) (pss_cons (ps_fld (pv 0) (pv 1) rfl) (pss_cons (ps_fld (pv 0) (pe_callTy (tupOfK (K := K) rfl) rfl G.g_tuple (by rfl) (pa_cons (pv 2) pa_nil)) rfl) (pss_cons (ps_fld (pv 0) (pe_callB (cr_sortSS rfl hr.units) rfl G.g_sorted (by rfl) (pa_cons (pe_set (own := [("step", 3)]) (mkS _ _) rfl sc_Hand___init__.nd (pi_or (pi_list (pv 2)) (pi_tup (pv 2))) (BlkOk.mk (N := ["self", "start", "steps", "step"]) (sc := defScope s_Hand___init__) rfl (by decide +kernel) (by decide +kernel) (by decide +kernel) (by decide +kernel)) (fun _ _ _ _ _ => (pg_name (i := 3) sc_Hand___init__.nd rfl (Or.inl rfl))) (fun _ _ _ _ _ => pts_nil) (fun _ _ _ _ _ => (pe_ix (ixK (K := K) rfl) (pv 3) pe_int (fun _ _ => rfl)))) pa_nil)) rfl) (pss_one (ps_fld (pv 0) (pe_callB (cr_or (cr_sortD encS hr.units) (cr_sortDT encS rfl hr.units)) rfl G.g_sorted (by rfl) (pa_cons (pv 2) pa_nil)) rfl))))))), ?_⟩)
  · obtain ⟨_, _, _, _, _, rfl, _⟩ := h
    rfl
  · obtain ⟨H0, p, dx, v1, v2, rfl, e0, p0, hp, g1, g2, bad1, bad2, hyes⟩ := h
    refine ⟨_, rfl, v1, rfl, g1.ex e0, fun H1 e1 => ⟨isSt v1, rfl, ?_⟩⟩
    cases hst : isSt v1 with
    | false =>
      refine iteT ⟨_, rfl, ?_⟩
      exact raise_go fun d hd => bad1 hst H1 d (e0.trans e1) hd
    | true =>
    refine iteF ?_
    obtain ⟨st, rfl⟩ : ∃ st, v1 = .int st := by
      cases v1 with
      | int i => exact ⟨i, rfl⟩
      | _ => exact nomatch (show false = true from hst)
    refine ⟨_, rfl, v2, rfl, g2.ex (e0.trans e1), fun z H2 d e2 hd => bad2 hst ((rowB_ex (e0.trans e1) g2).symm.trans z) H2 d ((e0.trans e1).trans e2) hd, fun z => ?_⟩
    obtain ⟨a, xs, os, rfl, hx, hmo, hw0, hbad, hgood⟩ := hyes hst ((rowB_ex (e0.trans e1) g2).symm.trans z)
    refine ⟨a, xs, os, rfl, hx.ex (e0.trans e1), hmo, Paired.mapP hw0 fun v t q => q.ex (e0.trans e1), fun i z H2 d e2 hd => hbad i z H2 d ((e0.trans e1).trans e2) hd, fun hnone H2 e2 => ?_⟩
    obtain ⟨ts, rfl⟩ := fb_some hnone
    have hw : Rw H0 xs ts := rw_of hw0
    have hxl := hw.len
    have k := hgood hnone st ts rfl rfl
    refine ⟨_, rfl, _, rfl, p, C, dx, [], rfl, e2 _ _ (e1 _ _ hp), T.cl, T.n1, (by decide), ?_⟩
    have E3 : Ex H0 (upd H2 p (.ins C dx (putF "_start" (.int st) []))) := ((e0.trans e1).trans e2).mut p0
    have P3 : upd H2 p (.ins C dx (putF "_start" (.int st) [])) p = some (.ins C dx (putF "_start" (.int st) [])) := upd_same
    generalize upd H2 p (.ins C dx (putF "_start" (.int st) [])) = H3 at E3 P3
    refine ⟨.ref a, rfl, ?_⟩
    dsimp only [tNil]
    refine tupof_go (K := K) (hx.ex E3) fun tp H4 e4 htp => ?_
    have P4 := e4 _ _ P3
    have ntp : tp ≠ p := fun z => by rw [z, P4] at htp; cases htp
    refine ⟨_, rfl, p, C, dx, _, rfl, P4, T.cl, T.n2, (Nat.lt_of_le_of_lt (putF_le _) (by show 1 < 1000; decide)), ?_⟩
    generalize hf2e : putF "_steps" (.ref tp) (putF "_start" (.int st) []) = f2
    have E5 : Ex H0 (upd H4 p (.ins C dx f2)) := (E3.trans e4).mut p0
    have P5 : upd H4 p (.ins C dx f2) p = some (.ins C dx f2) := upd_same
    have T5 : upd H4 p (.ins C dx f2) tp = some (.tup xs) := by rw [upd_ne ntp]; exact htp
    have l2 : f2.length ≤ 2 := by
      rw [← hf2e]
      have h1 := putF_le (f := "_steps") (y := .ref tp) (putF "_start" (.int st) [])
      have h2 := putF_le (f := "_start") (y := .int st) []
      simp at h2
      omega
    generalize upd H4 p (.ins C dx f2) = H5 at E5 P5 T5
    refine iseq_go rfl (hx.ex E5) fun J S D hD => ?_
    refine set_ev (u := wd H5) S (by omega) (fun x => rfl) hD (fun x mx H6 e6 Q6 q6 => ?_) (fun H6 ks e6 nd hm hd => ?_)
    · obtain ⟨i, hi⟩ := List.getElem?_of_mem mx
      obtain ⟨u, hu, hst⟩ := (hw.ex E5).at hi
      rw [wd_at hst] at q6
      obtain ⟨b, rfl, hb⟩ := hst
      exact ⟨_, rfl, .inr (.inl ⟨b, _, 1, _, rfl, rfl, st_of (e6 _ _ hb), (by rfl), q6 H6 (Ex.refl _)⟩)⟩
    refine ⟨D, ks, rfl, hd, fun wl hwl => ?_⟩
    have P6 := e6 _ _ P5
    have npw : p ≠ wl := ne_of_none P6 hwl
    refine ⟨_, rfl, p, C, dx, _, rfl, (by rw [upd_ne npw]; exact P6), T.cl, T.n3, (by omega), ?_⟩
    have e7 : Ex H5 (upd H6 wl (.lst ((sortS ks).map V.str))) := e6.trans (Ex.new hwl)
    have W7 : upd H6 wl (.lst ((sortS ks).map V.str)) wl = some (.lst ((sortS ks).map V.str)) := upd_same
    generalize upd H6 wl (.lst ((sortS ks).map V.str)) = H7 at e7 W7
    have E8 : Ex H0 (upd H7 p (.ins C dx (putF "_words" (.ref wl) f2))) := (E5.trans e7).mut p0
    have P8 : upd H7 p (.ins C dx (putF "_words" (.ref wl) f2)) p = some (.ins C dx (putF "_words" (.ref wl) f2)) := upd_same
    have T8 : upd H7 p (.ins C dx (putF "_words" (.ref wl) f2)) tp = some (.tup xs) := by rw [upd_ne ntp]; exact e7 _ _ T5
    have W8 : upd H7 p (.ins C dx (putF "_words" (.ref wl) f2)) wl = some (.lst ((sortS ks).map V.str)) := by rw [upd_ne npw.symm]; exact W7
    have l3 : (putF "_words" (.ref wl) f2).length ≤ 3 := Nat.le_trans (putF_le _) (by omega)
    generalize upd H7 p (.ins C dx (putF "_words" (.ref wl) f2)) = H8 at E8 P8 T8 W8
    refine ⟨.ref a, rfl, ?_⟩
    dsimp only [tNil]
    refine sort_go (K := K) (hx.ex E8) (hw.ex E8) fun ys ol H9 e9 hn hol hys => ?_
    have P9 := e9 _ _ P8
    have nol : ol ≠ p := fun z => by rw [z, P9] at hol; cases hol
    refine ⟨_, rfl, p, C, dx, _, rfl, P9, T.cl, T.n4, (by omega), ?_⟩
    have EA : Ex H0 (upd H9 p (.ins C dx (putF "_ordered_steps" (.ref ol) (putF "_words" (.ref wl) f2)))) := (E8.trans e9).mut p0
    refine k _ EA ⟨dx, tp, wl, ol, xs, ys, ?_, ?_, hw.ex EA, ⟨ks, nd, fun z => ?_, ?_⟩, ?_, ?_, fresh_back (E5.trans e6) hwl, fresh_back E8 hn⟩
    · rw [upd_same, ← hf2e]
      rfl
    · rw [upd_ne ntp]; exact e9 _ _ T8
    · rw [hm z, wd_map (hw.ex E5)]
    · rw [upd_ne npw.symm]; exact e9 _ _ W8
    · rw [upd_ne nol]; exact hol
    · refine Paired.mapP hys fun v t ⟨b, e1, e2⟩ => ⟨b, e1, ?_⟩
      rw [upd_ne (fun z => by rw [z, P9] at e2; cases e2)]
      exact e2
abbrev s_Hand_start : Stmt := inClass (top 16) 2
theorem sc_Hand_start : FnScope ["self"] ["self"] (defScope s_Hand_start) := ⟨rfl, rfl, rfl, by decide +kernel, rfl, by decide +kernel, by decide +kernel⟩
def spStart (C : Addr) : Sp := fun vs H Q _ => ∃ p st ts, vs = [.ref p] ∧ HandAt C H p st ts ∧ Q (.int st) H
theorem ok_start {C : Addr} (T : Hd K mg C) (D : FunD K "start" "Hand.start" (defArgs s_Hand_start) (defBody s_Hand_start) (defScope s_Hand_start) [] [] f fd) : FnOk P w K mg base CXn 1 f fd ["self"] (spStart C) := by
  refine D.ok sc_Hand_start (fun vs H Q E h => ?_) (fun cdv A outer s H vs Q E hr h => ⟨_, PSs.nox (pss_one (ps_ret (pe_fld (pv 0) rfl))), ?_⟩)
  · obtain ⟨_, _, _, rfl, _⟩ := h
    rfl
  · obtain ⟨p, st, ts, rfl, ⟨dx, tp, wl, ol, xs, ys, hp, _⟩, k⟩ := h
    exact ⟨_, rfl, p, C, dx, _, _, rfl, hp, T.cl, T.n1, hf1, k⟩
abbrev s_Hand_steps : Stmt := inClass (top 16) 3
theorem sc_Hand_steps : FnScope ["self"] ["self"] (defScope s_Hand_steps) := ⟨rfl, rfl, rfl, by decide +kernel, rfl, by decide +kernel, by decide +kernel⟩
def spSteps (C : Addr) : Sp := fun vs H Q _ => ∃ p st ts, vs = [.ref p] ∧ HandAt C H p st ts ∧ ∀ tp xs, H tp = some (.tup xs) → Rw H xs ts → Q (.ref tp) H
theorem ok_steps {C : Addr} (T : Hd K mg C) (D : FunD K "steps" "Hand.steps" (defArgs s_Hand_steps) (defBody s_Hand_steps) (defScope s_Hand_steps) [] [] f fd) : FnOk P w K mg base CXn 1 f fd ["self"] (spSteps C) := by
  refine D.ok sc_Hand_steps (fun vs H Q E h => ?_) (fun cdv A outer s H vs Q E hr h => ⟨_, PSs.nox (pss_one (ps_ret (pe_fld (pv 0) rfl))), ?_⟩)
  · obtain ⟨_, _, _, rfl, _⟩ := h
    rfl
  · obtain ⟨p, st, ts, rfl, ⟨dx, tp, wl, ol, xs, ys, hp, ht, hw, _⟩, k⟩ := h
    exact ⟨_, rfl, p, C, dx, _, _, rfl, hp, T.cl, T.n2, hf2, k tp xs ht hw⟩
abbrev s_Hand_words : Stmt := inClass (top 16) 4
theorem sc_Hand_words : FnScope ["self"] ["self"] (defScope s_Hand_words) := ⟨rfl, rfl, rfl, by decide +kernel, rfl, by decide +kernel, by decide +kernel⟩
def spWords (C : Addr) : Sp := fun vs H Q _ => ∃ p st ts, vs = [.ref p] ∧ HandAt C H p st ts ∧ ∀ l ks H', Ex H H' → H l = none → ks.Nodup → (∀ k, k ∈ ks ↔ k ∈ ts.map (·.2.1)) → H' l = some (.lst ((sortS ks).map V.str)) → Q (.ref l) H'
theorem ok_words {C : Addr} (G : Gz mg) (T : Hd K mg C) (D : FunD K "words" "Hand.words" (defArgs s_Hand_words) (defBody s_Hand_words) (defScope s_Hand_words) [] [] f fd) : FnOk P w K mg base CXn 1 f fd ["self"] (spWords C) := by
  refine D.ok sc_Hand_words (fun vs H Q E h => ?_) (fun cdv A outer s H vs Q E hr h => ⟨_, PSs.nox (pss_one (ps_ret (pe_callTy (listOfK (K := K) rfl) rfl G.g_list (by rfl) (pa_cons (pe_fld (pv 0) rfl) pa_nil)))), ?_⟩)
  · obtain ⟨_, _, _, rfl, _⟩ := h
    rfl
  · obtain ⟨p, st, ts, rfl, ⟨dx, tp, wl, ol, xs, ys, hp, ht, hw, ⟨ks, nd, hm, hl⟩, _⟩, k⟩ := h
    exact ⟨_, rfl, p, C, dx, _, _, rfl, hp, T.cl, T.n3, hf3, wl, _, rfl, .inl (sq_of hl), fun l hn => k l ks _ (Ex.new hn) hn nd hm upd_same⟩
end
end WK

set_option Elab.async false
set_option linter.all false
set_option maxRecDepth 100000
set_option maxHeartbeats 4000000
namespace WK
open PySem PySem.Spec PyProof.Rows L2 WW Evl
/-- the classes of the errors -/
structure Er (K : PySem.W.Frag) (mg : Str → Option Value) (CS CB CW CT : Addr) : Prop where
  gS : mg "BadStart" = some (.ref CS)
  gB : mg "BadSteps" = some (.ref CB)
  gW : mg "WorksError" = some (.ref CW)
  gT : mg "TooMany" = some (.ref CT)
  gV : mg "ValueError" = none
  xS : XfC K CS
  xB : XfC K CB
  nS : PySem.W.findIn K (.ref CS) "value" = some none
  nB : PySem.W.findIn K (.ref CB) "at" = some none
  eS : ExcC K CS
  eB : ExcC K CB
  mSS : PySem.W.exmOne K (.ref CS) (.ref CS) = some true
  mBS : PySem.W.exmOne K (.ref CB) (.ref CS) = some false
  mBB : PySem.W.exmOne K (.ref CB) (.ref CB) = some true
  kSW : PySem.W.kitOne K (.ref CS) (.ref CW) = some true
  kSB : PySem.W.kitOne K (.ref CS) (.ref CB) = some false
  kBW : PySem.W.kitOne K (.ref CB) (.ref CW) = some true
  kBV : PySem.W.kitOne K (.ref CB) (.type "ValueError") = some true
  kBT : PySem.W.kitOne K (.ref CB) (.ref CT) = some false
section
variable {P : Program} {w : World} {K : PySem.W.Frag} {mg : Str → Option Value} {base : Heap} {f : Addr} {fd : FuncData}
abbrev s__law_told : Stmt := top 31
theorem sc__law_told : FnScope ["_law_start", "_law_steps", "e"] ["_law_start", "_law_steps"] (defScope s__law_told) := ⟨rfl, rfl, rfl, by decide +kernel, rfl, by decide +kernel, by decide +kernel⟩
def spTold : Sp := fun vs H Q _ => ∃ v1 v2, vs = [v1, v2] ∧ Pl H v1 ∧ Pl H v2 ∧
  (isSt v1 = false → ∀ H' T, Ex H H' → H' T = some (.tup [.str "start", v1, .bl true]) → Q (.ref T) H') ∧
  (isSt v1 = true → rowB H v2 1 20 = false → ∀ H' T, Ex H H' → H' T = some (.tup [.str "steps", .int (-1), .bl true]) → Q (.ref T) H') ∧
  (isSt v1 = true → rowB H v2 1 20 = true → ∃ a xs os, v2 = .ref a ∧ SqX H a xs ∧ xs.length ≤ 20 ∧ Paired (ItAt H) xs os ∧ (∀ i : Nat, fb [] 0 os = some i → ∀ H' T, Ex H H' → H' T = some (.tup [.str "steps", .int i, .bl true]) → Q (.ref T) H') ∧
    (fb [] 0 os = none → ∀ H' T, Ex H H' → H' T = some (.tup [.str "hand", .int 0, .bl true]) → Q (.ref T) H'))
theorem okg_told {C_Hand C_BadStart C_BadSteps C_WorksError C_TooMany fH : Addr} {fdH : FuncData} (G : Gz mg) (R : Er K mg C_BadStart C_BadSteps C_WorksError C_TooMany) (D : Df K mg "_law_told" s__law_told f fd ["_law_start", "_law_steps"]) (M_Hand : Mk K C_Hand fH) (F_Hand : FnOk P w K mg base (L2.CX P w) 5 fH fdH ["self", "start", "steps"] (spInitG C_Hand C_BadStart C_BadSteps)) (b_Hand : Binds K fdH ["self", "start", "steps"] [])
    (g_Hand : mg "Hand" = some (.ref C_Hand)) : Callee P w K mg base CXn 7 "_law_told" 2 spTold := by
  have g_BadStart := R.gS
  have g_BadSteps := R.gB
  have g_WorksError := R.gW
  have g_TooMany := R.gT
  have g_ValueError := R.gV
  have xf_BadStart := R.xS
  have xf_BadSteps := R.xB
  have no_BadStart := R.nS
  have no_BadSteps := R.nB
  refine D.callee (D.fn.ok sc__law_told (fun vs H Q E h => ?_) (fun cdv A outer s H vs Q E hr h => ⟨_, (pss_cons (ps_try_asM (tb := _) rfl rfl sc__law_told.nd takes0 (fun W pn xe tk po => (pss_one (ps_expr (pe_makeS M_Hand F_Hand (hr.mono (by decide)) rfl g_Hand b_Hand (fun σ => passAt tk σ) (pa_cons (pv 0) (pa_cons (pv 1) pa_nil)))))) (HdsAs.clause (c := .ref C_BadStart) ⟨rfl, by decide, .inl g_BadStart⟩ (i := 2) rfl rfl (fun a oe cls d pn hz hf => (pss_one (ps_ret (pe_tup (pa_cons pe_str (pa_cons (pe_xf xf_BadStart no_BadStart hz hf (pv 2)) (pa_cons (L2.pe_and (pe_callB (call_isED hz hf) rfl G.g_isinstance (by rfl) (pa_cons (pv 2) (pa_cons (pe_glob (v := .ref C_WorksError) rfl g_WorksError rfl) pa_nil))) (pe_one (pe_not (pe_callB (call_isED hz hf) rfl G.g_isinstance (by rfl) (pa_cons (pv 2) (pa_cons (pe_glob (v := .ref C_BadSteps) rfl g_BadSteps rfl) pa_nil)))))) pa_nil))))))) (HdsAs.clause (c := .ref C_BadSteps) ⟨rfl, by decide, .inl g_BadSteps⟩ (i := 2) rfl rfl (fun a oe cls d pn hz hf => (pss_one (ps_ret (pe_tup (pa_cons pe_str (pa_cons (pe_xf xf_BadSteps no_BadSteps hz hf (pv 2)) (pa_cons (L2.pe_and (pe_callB (call_isED hz hf) rfl G.g_isinstance (by rfl) (pa_cons (pv 2) (pa_cons (pe_glob (v := .ref C_WorksError) rfl g_WorksError rfl) pa_nil))) (L2.pe_and (pe_callB (call_isED hz hf) rfl G.g_isinstance (by rfl) (pa_cons (pv 2) (pa_cons (pe_bltn (v := .ty "ValueError") rfl g_ValueError (by rfl) rfl) pa_nil))) (pe_one (pe_not (pe_callB (call_isED hz hf) rfl G.g_isinstance (by rfl) (pa_cons (pv 2) (pa_cons (pe_glob (v := .ref C_TooMany) rfl g_TooMany rfl) pa_nil))))))) pa_nil))))))) HdsAs.done))) (pss_one (ps_ret (pe_tup (pa_cons pe_str (pa_cons pe_int (pa_cons pe_bl pa_nil))))))), ?_⟩))
  · obtain ⟨_, _, rfl, _⟩ := h
    rfl
  · obtain ⟨v1, v2, rfl, p1, p2, h1, h2, h3⟩ := h
    have no_E : ∀ {u : Value} {C : Addr}, RelV (.ref C) u → u = .ref C := fun r => r
    refine ⟨_, rfl, _, rfl, fun o m ho hm hne => ⟨H, o, m, v1, v2, rfl, (Ex.new hm).trans (Ex.new (by rw [upd_ne hne.symm]; exact ho)), ho, upd_same, p1, p2, fun z H1 d e1 hd => ?_, fun z1 z2 H1 d e1 hd => ?_, fun z1 z2 => ?_⟩⟩
    · refine ⟨true, R.mSS, fun _ a ha => ?_, fun z => nomatch z⟩
      refine ⟨.ref a, rfl, rfl, rfl, d, _, v1, rfl, upd_same, rfl, ?_⟩
      refine ⟨_, rfl, C_BadStart, d, _, rfl, rfl, upd_same, R.eS, .ref C_WorksError, .ref C_WorksError, true, rfl, fun u r => r, R.kSW, true, rfl, ?_⟩
      refine ⟨_, rfl, C_BadStart, d, _, rfl, rfl, upd_same, R.eS, .ref C_BadSteps, .ref C_BadSteps, false, rfl, fun u r => r, R.kSB, ?_⟩
      refine ⟨false, rfl, (by show 3 ≤ sizeLine; decide), fun T hT => ?_⟩
      exact h1 z _ T (e1.trans ((Ex.new hd).trans (Ex.new hT))) upd_same
    · refine ⟨false, R.mBS, (fun z => nomatch z), fun _ => ⟨true, R.mBB, fun _ a ha => ?_, fun z => nomatch z⟩⟩
      refine ⟨.ref a, rfl, rfl, rfl, d, _, .int (-1), rfl, upd_same, rfl, ?_⟩
      refine ⟨_, rfl, C_BadSteps, d, _, rfl, rfl, upd_same, R.eB, .ref C_WorksError, .ref C_WorksError, true, rfl, fun u r => r, R.kBW, true, rfl, ?_⟩
      refine ⟨_, rfl, C_BadSteps, d, _, rfl, rfl, upd_same, R.eB, .ty "ValueError", .type "ValueError", true, rfl, fun u r => r, R.kBV, true, rfl, ?_⟩
      refine ⟨_, rfl, C_BadSteps, d, _, rfl, rfl, upd_same, R.eB, .ref C_TooMany, .ref C_TooMany, false, rfl, fun u r => r, R.kBT, ?_⟩
      refine ⟨false, rfl, (by show 3 ≤ sizeLine; decide), fun T hT => ?_⟩
      exact h2 z1 z2 _ T (e1.trans ((Ex.new hd).trans (Ex.new hT))) upd_same
    · obtain ⟨a, xs, os, rfl, hx, hmo, hw, hbad, hgood⟩ := h3 z1 z2
      refine ⟨a, xs, os, rfl, hx, hmo, hw, fun i z H1 d e1 hd => ?_, fun z st ts _ _ H1 e1 _ => ⟨rfl, ?_⟩⟩
      · refine ⟨false, R.mBS, (fun z => nomatch z), fun _ => ⟨true, R.mBB, fun _ a ha => ?_, fun z => nomatch z⟩⟩
        refine ⟨.ref a, rfl, rfl, rfl, d, _, .int ((i : Nat)), rfl, upd_same, rfl, ?_⟩
        refine ⟨_, rfl, C_BadSteps, d, _, rfl, rfl, upd_same, R.eB, .ref C_WorksError, .ref C_WorksError, true, rfl, fun u r => r, R.kBW, true, rfl, ?_⟩
        refine ⟨_, rfl, C_BadSteps, d, _, rfl, rfl, upd_same, R.eB, .ty "ValueError", .type "ValueError", true, rfl, fun u r => r, R.kBV, true, rfl, ?_⟩
        refine ⟨_, rfl, C_BadSteps, d, _, rfl, rfl, upd_same, R.eB, .ref C_TooMany, .ref C_TooMany, false, rfl, fun u r => r, R.kBT, ?_⟩
        refine ⟨false, rfl, (by show 3 ≤ sizeLine; decide), fun T hT => ?_⟩
        exact hbad i z _ T (e1.trans ((Ex.new hd).trans (Ex.new hT))) upd_same
      refine ⟨(by show 3 ≤ sizeLine; decide), fun T hT => ?_⟩
      exact hgood z _ T (e1.trans (Ex.new hT)) upd_same
end
end WK

set_option Elab.async false
set_option linter.all false
set_option maxRecDepth 100000
set_option maxHeartbeats 4000000
namespace WK
open PySem PySem.Spec PyProof.Rows L2 WW Evl
/-- the pool stands at p -/
def Pool (H : Hp) (p : Addr) : Prop := ∃ (g s : Addr) (n k : Int) (gs ss : List Int), H p = some (.lst [.ref g, .ref s, .int n, .int k]) ∧ g ≠ p ∧ s ≠ p ∧ 0 ≤ n ∧ 0 ≤ k ∧
  H g = some (.lst (gs.map V.int)) ∧ (∀ x ∈ gs, 0 ≤ x) ∧ gs.length ≤ 63 ∧ H s = some (.lst (ss.map V.int)) ∧ (∀ x ∈ ss, 0 ≤ x ∧ x < 1000003) ∧ ss.length ≤ 63
/-- all but the pool is kept -/
def K0 (p : Addr) (H H' : Hp) : Prop := ∀ b o, b ≠ p → H b = some o → H' b = some o
/-- b is no part of the pool -/
def Apart (H : Hp) (p b : Addr) : Prop := ∀ (g s : Addr) (n k : V), H p = some (.lst [.ref g, .ref s, n, k]) → g ≠ b ∧ s ≠ b
structure Kp (p : Addr) (H H' : Hp) : Prop where
  k : K0 p H H'
  a : ∀ b, b ≠ p → H b ≠ none → Apart H p b → Apart H' p b
theorem K0.refl (p : Addr) (H : Hp) : K0 p H H := fun _ _ _ h => h
theorem K0.trans {p : Addr} {H H1 H2 : Hp} (a : K0 p H H1) (b : K0 p H1 H2) : K0 p H H2 := fun c o n h => b c o n (a c o n h)
theorem K0.ex {p : Addr} {H H' : Hp} (e : Ex H H') : K0 p H H' := fun b o _ h => e b o h
theorem K0.new {p l : Addr} {o : HO} {H H' : Hp} (a : K0 p H H') (hl : H' l = none) : K0 p H (upd H' l o) := a.trans (K0.ex (Ex.new hl))
theorem K0.put {p : Addr} {o : HO} {H H' : Hp} (a : K0 p H H') : K0 p H (upd H' p o) := fun b u n h => by
  rw [upd_ne n]
  exact a b u n h
theorem some_ne {α : Type} {o : Option α} {x : α} (h : o = some x) : o ≠ none := fun z => by rw [h] at z; cases z
theorem Kp.refl (p : Addr) (H : Hp) : Kp p H H := ⟨K0.refl p H, fun _ _ _ h => h⟩
theorem Kp.trans {p : Addr} {H H1 H2 : Hp} (a : Kp p H H1) (b : Kp p H1 H2) : Kp p H H2 := ⟨a.k.trans b.k, fun c n h x => b.a c n (by
  cases e : H c with
  | none => exact absurd e h
  | some o => exact some_ne (a.k c o n e)) (a.a c n h x)⟩
theorem Pool.here {H : Hp} {p : Addr} (h : Pool H p) : H p ≠ none := by
  obtain ⟨g, s, n, k, gs, ss, h1, _⟩ := h
  exact some_ne h1
theorem Kp.ex {p : Addr} {H H' : Hp} (e : Ex H H') (hp : Pool H p) : Kp p H H' := ⟨K0.ex e, fun b n hb x g s n k h => by
  obtain ⟨g0, s0, n0, k0, gs, ss, h1, _⟩ := hp
  have h2 := e _ _ h1
  rw [h] at h2
  cases h2
  exact x _ _ _ _ h1⟩
theorem Kp.of {p g s g' : Addr} {n k n' k' : V} {H H' : Hp} (h1 : K0 p H H') (hp : H p = some (.lst [.ref g, .ref s, n, k])) (hp' : H' p = some (.lst [.ref g', .ref s, n', k'])) (hg : g' = g ∨ H g' = none) : Kp p H H' := ⟨h1, fun b nb hb x g2 s2 n2 k2 h => by
  rw [hp'] at h
  cases h
  obtain ⟨a1, a2⟩ := x _ _ _ _ hp
  refine ⟨?_, a2⟩
  rcases hg with rfl | hg
  · exact a1
  · intro z
    rw [← z] at hb
    exact hb hg⟩
theorem Kp.new {p l : Addr} {o : HO} {H H' : Hp} (a : Kp p H H') (hP : Pool H' p) (hl : H' l = none) : Kp p H (upd H' l o) := a.trans (Kp.ex (Ex.new hl) hP)
/-- a thing that came behind H changes -/
theorem Kp.mut {p D : Addr} {o : HO} {H H' : Hp} (a : Kp p H H') (hD : H D = none) (nD : D ≠ p) : Kp p H (upd H' D o) := ⟨fun b u n h => by
    rw [upd_ne (ne_of_none h hD)]
    exact a.k b u n h, fun b nb hb x g s n k h => by
    rw [upd_ne nD.symm] at h
    exact a.a b nb hb x g s n k h⟩
theorem Pool.ex {p : Addr} {H H' : Hp} (e : Ex H H') (h : Pool H p) : Pool H' p := by
  obtain ⟨g, s, n, k, gs, ss, h1, h2, h3, h4, h5, h6, h7, h8, h9, h10, h11⟩ := h
  exact ⟨g, s, n, k, gs, ss, e _ _ h1, h2, h3, h4, h5, e _ _ h6, h7, h8, e _ _ h9, h10, h11⟩
theorem Pool.mut {p D : Addr} {o : HO} {H : Hp} (h : Pool H p) (nD : D ≠ p) (x : Apart H p D) : Pool (upd H D o) p := by
  obtain ⟨g, s, n, k, gs, ss, h1, h2, h3, h4, h5, h6, h7, h8, h9, h10, h11⟩ := h
  obtain ⟨a1, a2⟩ := x _ _ _ _ h1
  exact ⟨g, s, n, k, gs, ss, by rw [upd_ne nD.symm]; exact h1, h2, h3, h4, h5, by rw [upd_ne a1]; exact h6, h7, h8, by rw [upd_ne a2]; exact h9, h10, h11⟩
/-- what is new is no part of the pool -/
theorem Apart.new {p D : Addr} {o : HO} {H : Hp} (h : Pool H p) (hD : H D = none) : D ≠ p ∧ Apart (upd H D o) p D := by
  obtain ⟨g, s, n, k, gs, ss, h1, h2, h3, h4, h5, h6, h7, h8, h9, h10, h11⟩ := h
  have nD : p ≠ D := ne_of_none h1 hD
  refine ⟨nD.symm, fun g2 s2 n2 k2 e => ?_⟩
  rw [upd_ne nD, h1] at e
  cases e
  exact ⟨ne_of_none h6 hD, ne_of_none h9 hD⟩
theorem Apart.mut {p D b : Addr} {o : HO} {H : Hp} (nD : D ≠ p) (x : Apart H p b) : Apart (upd H D o) p b := fun g s n k h => by
  rw [upd_ne nD.symm] at h
  exact x g s n k h
/-- what is free behind was free before -/
theorem Kp.free {p D : Addr} {H H' : Hp} (a : Kp p H H') (h : Pool H' p) (hD : H' D = none) : H D = none ∧ D ≠ p := by
  have nD : D ≠ p := fun z => h.here (z ▸ hD)
  refine ⟨?_, nD⟩
  cases e : H D with
  | none => rfl
  | some o =>
    rw [a.k D o nD e] at hD
    cases hD
def absV : V → V
  | .int i => .int (if i < 0 then -i else i)
  | v => v
def geV : V → Bool
  | .int i => decide ((10 : Int) ^ 18 ≤ i)
  | _ => false
def ltV : V → Bool
  | .int i => decide (i < (10 : Int) ^ 18)
  | _ => false
def modV : V → V
  | .int i => .int (i % 1000003)
  | v => v
section
variable {P : Program} {w : World} {K : PySem.W.Frag} {mg : Str → Option Value} {base : Heap} {f : Addr} {fd : FuncData}
abbrev s__law_pool : Stmt := top 21
theorem sc__law_pool : FnScope ["_law_script", "_law_cells", "_law_cell", "_law_great", "_law_small"] ["_law_script"] (defScope s__law_pool) := ⟨rfl, rfl, rfl, by decide +kernel, rfl, by decide +kernel, by decide +kernel⟩
def spPool (K : PySem.W.Frag) : Sp := fun vs H Q _ => ∃ (a : Addr) (ns : List Int), vs = [.ref a] ∧ SqL K H a (ns.map V.int) ∧ ∀ p H', Ex H H' → H p = none → Pool H' p → Q (.ref p) H'
theorem ok_pool (G : Gz mg) (D : Df K mg "_law_pool" s__law_pool f fd ["_law_script"]) : Callee P w K mg base CXn 1 "_law_pool" 1 (spPool K) := by
  refine D.callee (D.fn.ok sc__law_pool (fun vs H Q E h => ?_) (fun cdv A outer s H vs Q E hr h => ⟨_, PSs.nox (pss_cons (ps_setLc (i := 1) (y := "_law_cells") (own := [("_law_cell", 2)]) rfl sc__law_pool.nd rfl rfl rfl (pi_list (pe_slice sl_list (pv 0) po_none (po_some pe_int))) (BlkOk.mk (N := ["_law_script", "_law_cells", "_law_cell", "_law_great", "_law_small"]) (sc := defScope s__law_pool) rfl (by decide +kernel) (by decide +kernel) (by decide +kernel) (by decide +kernel)) (fun _ _ _ _ _ => (pg_name (i := 2) sc__law_pool.nd rfl (Or.inl rfl))) (fun _ _ _ _ _ => pts_nil) (fun _ _ _ _ _ => (pe_callB call_abs rfl G.g_abs (by rfl) (pa_cons (pe_callTy call_int1 rfl G.g_int (by rfl) (pa_cons (pv 2) pa_nil)) pa_nil)))) (pss_cons (ps_setLc (i := 3) (y := "_law_great") (own := [("_law_cell", 2)]) rfl sc__law_pool.nd rfl rfl rfl (pi_list (pv 1)) (BlkOk.mk (N := ["_law_script", "_law_cells", "_law_cell", "_law_great", "_law_small"]) (sc := defScope s__law_pool) rfl (by decide +kernel) (by decide +kernel) (by decide +kernel) (by decide +kernel)) (fun _ _ _ _ _ => (pg_name (i := 2) sc__law_pool.nd rfl (Or.inl rfl))) (fun _ _ _ _ _ => (pts_one (pt_cmpR op_ge (pv 2) (pe_op op_pow pe_int pe_int) (nomark _)))) (fun _ _ _ _ _ => (pv 2))) (pss_cons (ps_setLc (i := 4) (y := "_law_small") (own := [("_law_cell", 2)]) rfl sc__law_pool.nd rfl rfl rfl (pi_list (pv 1)) (BlkOk.mk (N := ["_law_script", "_law_cells", "_law_cell", "_law_great", "_law_small"]) (sc := defScope s__law_pool) rfl (by decide +kernel) (by decide +kernel) (by decide +kernel) (by decide +kernel)) (fun _ _ _ _ _ => (pg_name (i := 2) sc__law_pool.nd rfl (Or.inl rfl))) (fun _ _ _ _ _ => (pts_one (pt_cmpR op_lt (pv 2) (pe_op op_pow pe_int pe_int) (nomark _)))) (fun _ _ _ _ _ => (pe_op op_mod (pe_callTy call_int1 rfl G.g_int (by rfl) (pa_cons (pv 2) pa_nil)) pe_int))) (pss_one (ps_ret (pe_lst (pa_cons (pv 3) (pa_cons (pv 4) (pa_cons pe_int (pa_cons pe_int pa_nil)))))))))), ?_⟩))
  · obtain ⟨_, _, rfl, _⟩ := h
    rfl
  · obtain ⟨a, ns, rfl, hS, k⟩ := h
    refine ⟨.ref a, rfl, 63, rfl, a, _, rfl, hS, fun p hp => ⟨p, rfl, ⟨_, sq_of upd_same⟩, fun D hD => ?_⟩⟩
    have ec : cutV (ns.map V.int) none (some 63) = (ns.take 63).map V.int := by
      have e := cut_take (ns.map V.int) 63
      rw [← List.map_take] at e
      exact e
    rw [ec] at hD ⊢
    have l63 : ((ns.take 63).map V.int).length ≤ 63 := by rw [List.length_map, List.length_take]; omega
    refine lc_ev (f := fun _ => true) (v := absV) (st_l (sq_of upd_same)) (by omega) (fun x => rfl) hD (fun x _ H1 e Q q => q H1 (Ex.refl _)) (fun x hx _ H1 e Q q => ?_) (fun H1 e1 hd1 => ?_)
    · obtain ⟨i, _, rfl⟩ := List.mem_map.mp hx
      exact ⟨_, rfl, .inl ⟨i, rfl, i, rfl, q H1 (Ex.refl _)⟩⟩
    generalize hcs : (ns.take 63).map (fun i : Int => if i < 0 then -i else i) = cs
    have d1 : H1 D = some (.lst (cs.map V.int)) := by
      rw [hd1, List.filter_eq_self.mpr (fun _ _ => rfl), ← hcs, List.map_map, List.map_map]
      rfl
    have lcs : cs.length ≤ 63 := by rw [← hcs, List.length_map, List.length_take]; omega
    have pcs : ∀ x ∈ cs, 0 ≤ x := fun x hx => by
      rw [← hcs] at hx
      obtain ⟨i, _, rfl⟩ := List.mem_map.mp hx
      split <;> omega
    refine ⟨_, rfl, D, rfl, ⟨_, sq_of d1⟩, fun D2 hD2 => ?_⟩
    refine lc_ev (f := geV) (v := fun x => x) (st_l (sq_of d1)) (by rw [List.length_map]; omega) (fun x => rfl) hD2 (fun x hx H2 e Q q => ?_) (fun x hx _ H2 e Q q => ⟨_, rfl, q H2 (Ex.refl _)⟩) (fun H2 e2 hd2 => ?_)
    · obtain ⟨i, _, rfl⟩ := List.mem_map.mp hx
      exact ⟨_, rfl, 10, 18, rfl, rfl, ⟨by decide, by decide, by decide⟩, i, _, rfl, rfl, _, rfl, q H2 (Ex.refl _)⟩
    have d2 : H2 D2 = some (.lst ((cs.filter fun i => decide ((10 : Int) ^ 18 ≤ i)).map V.int)) := by
      rw [hd2, List.map_id'' (fun _ => rfl), List.filter_map]
      rfl
    have d12 := e2 _ _ d1
    refine ⟨_, rfl, D, rfl, ⟨_, sq_of d12⟩, fun D3 hD3 => ?_⟩
    refine lc_ev (f := ltV) (v := modV) (st_l (sq_of d12)) (by rw [List.length_map]; omega) (fun x => rfl) hD3 (fun x hx H3 e Q q => ?_) (fun x hx _ H3 e Q q => ?_) (fun H3 e3 hd3 => ?_)
    · obtain ⟨i, _, rfl⟩ := List.mem_map.mp hx
      exact ⟨_, rfl, 10, 18, rfl, rfl, ⟨by decide, by decide, by decide⟩, i, _, rfl, rfl, _, rfl, q H3 (Ex.refl _)⟩
    · obtain ⟨i, _, rfl⟩ := List.mem_map.mp hx
      exact ⟨_, rfl, .inl ⟨i, rfl, i, 1000003, rfl, rfl, (by show (0 : Int) < 1000003; decide), q H3 (Ex.refl _)⟩⟩
    have d3 : H3 D3 = some (.lst (((cs.filter fun i => decide (i < (10 : Int) ^ 18)).map fun i => i % 1000003).map V.int)) := by
      rw [hd3, List.filter_map, List.map_map, List.map_map]
      rfl
    have d23 := e3 _ _ d2
    refine ⟨_, rfl, _, rfl, (by show 4 ≤ sizeLine; decide), fun q hq => ?_⟩
    have e03 : Ex H H3 := (Ex.new hp).trans (e1.trans (e2.trans e3))
    have e04 : Ex H (upd H3 q (.lst [.ref D2, .ref D3, .int 0, .int 0])) := e03.trans (Ex.new hq)
    refine k q _ e04 (fresh_back e03 hq) ⟨D2, D3, 0, 0, (cs.filter fun i => decide ((10 : Int) ^ 18 ≤ i)), ((cs.filter fun i => decide (i < (10 : Int) ^ 18)).map fun i => i % 1000003), upd_same, ne_of_none d23 hq, ne_of_none d3 hq, Int.le_refl _, Int.le_refl _, ?_, ?_, ?_, ?_, ?_, ?_⟩
    · rw [upd_ne (ne_of_none d23 hq)]; exact d23
    · exact fun x hx => pcs x (List.mem_filter.mp hx).1
    · exact Nat.le_trans (List.length_filter_le _ _) lcs
    · rw [upd_ne (ne_of_none d3 hq)]; exact d3
    · intro x hx
      obtain ⟨i, hi, rfl⟩ := List.mem_map.mp hx
      exact ⟨Int.emod_nonneg _ (by decide), Int.emod_lt_of_pos _ (by decide)⟩
    · rw [List.length_map]
      exact Nat.le_trans (List.length_filter_le _ _) lcs
abbrev s__law_draw : Stmt := top 22
theorem sc__law_draw : FnScope ["_law_pool_here", "_law_many", "_law_great", "_law_digit", "_law_seed", "_law_number"] ["_law_pool_here", "_law_many"] (defScope s__law_draw) := ⟨rfl, rfl, rfl, by decide +kernel, rfl, by decide +kernel, by decide +kernel⟩
def spDraw : Sp := fun vs H Q _ => ∃ (p : Addr) (m : Int), vs = [.ref p, .int m] ∧ Pool H p ∧ 1 ≤ m ∧ m ≤ 1000000 ∧ ∀ d H', 0 ≤ d → d < m → Kp p H H' → Pool H' p → Q (.int d) H'
theorem ok_draw (G : Gz mg) (D : Df K mg "_law_draw" s__law_draw f fd ["_law_pool_here", "_law_many"]) : Callee P w K mg base CXn 1 "_law_draw" 2 spDraw := by
  refine D.callee (D.fn.ok sc__law_draw (fun vs H Q E h => ?_) (fun cdv A outer s H vs Q E hr h => ⟨_, PSs.nox (pss_cut (ps_if (PW.pt (pw_and (pt_cmpR op_eq (pe_ix (ixK (K := K) rfl) (pv 0) pe_int (fun _ _ => rfl)) pe_int (nomark _)) (pw_and1 (pt_cmpR op_gt (pe_callB (lenK (K := K) rfl) rfl G.g_len PySem.boot_len (pa_cons (pe_ix (ixK (K := K) rfl) (pv 0) pe_int (fun _ _ => rfl)) pa_nil)) pe_int (nomark _))))) (pss_cons (ps_set (i := 2) sc__law_draw.nd rfl (Or.inl rfl) (pe_ix (ixK (K := K) rfl) (pv 0) pe_int (fun _ _ => rfl))) (pss_one (ps_asg (pe_tup (pa_cons (pe_ix (ixK (K := K) rfl) (pv 2) pe_int (fun _ _ => rfl)) (pa_cons (pe_slice sl_list (pv 2) (po_some pe_int) po_none) pa_nil))) (pg_tup rfl (pgs_cons (pg_sub (pv 0) pe_int set_list) (pgs_cons (pg_sub (pv 0) pe_int set_list) pgs_nil)))))) pss_nil) (pss_cut (ps_if (pt_cmpR op_gt (pe_ix (ixK (K := K) rfl) (pv 0) pe_int (fun _ _ => rfl)) pe_int (nomark _)) (pss_cons (ps_asg (pe_tup (pa_cons (pe_op op_mod (pe_callTy call_int1 rfl G.g_int (by rfl) (pa_cons (pe_ix (ixK (K := K) rfl) (pv 0) pe_int (fun _ _ => rfl)) pa_nil)) (pv 1)) (pa_cons (pe_op op_fdiv (pe_ix (ixK (K := K) rfl) (pv 0) pe_int (fun _ _ => rfl)) (pv 1)) pa_nil))) (pg_tup rfl (pgs_cons (pg_name (i := 3) sc__law_draw.nd rfl (Or.inl rfl)) (pgs_cons (pg_sub (pv 0) pe_int set_list) pgs_nil)))) (pss_one (ps_ret (pv 3)))) pss_nil) (pss_cons (ps_asg (pe_op op_add (pe_ix (ixK (K := K) rfl) (pv 0) pe_int (fun _ _ => rfl)) pe_int) (pg_sub (pv 0) pe_int set_list)) (pss_cons (ps_set (i := 4) sc__law_draw.nd rfl (Or.inl rfl) (pe_ix (ixK (K := K) rfl) (pe_op op_cat (pe_ix (ixK (K := K) rfl) (pv 0) pe_int (fun _ _ => rfl)) (pe_lst (pa_cons pe_int pa_nil))) (pe_op op_mod (pe_callTy call_int1 rfl G.g_int (by rfl) (pa_cons (pe_ix (ixK (K := K) rfl) (pv 0) pe_int (fun _ _ => rfl)) pa_nil)) (pe_callB (call_max2 rfl) rfl G.g_max (by rfl) (pa_cons pe_int (pa_cons (pe_callB (lenK (K := K) rfl) rfl G.g_len PySem.boot_len (pa_cons (pe_ix (ixK (K := K) rfl) (pv 0) pe_int (fun _ _ => rfl)) pa_nil)) pa_nil)))) (fun _ _ => rfl))) (pss_cons (ps_set (i := 5) sc__law_draw.nd rfl (Or.inl rfl) (pe_op op_mod (pe_callTy call_int1 rfl G.g_int (by rfl) (pa_cons (pe_op op_mul (pe_op op_add (pe_op op_add (pv 4) (pe_op op_mul pe_int (pe_ix (ixK (K := K) rfl) (pv 0) pe_int (fun _ _ => rfl)))) pe_int) pe_int) pa_nil)) pe_int)) (pss_cons (ps_set (i := 5) sc__law_draw.nd rfl (Or.inl rfl) (pe_op op_mod (pe_callTy call_int1 rfl G.g_int (by rfl) (pa_cons (pe_op op_mul (pv 5) (pe_op op_add (pe_op op_fdiv (pv 5) pe_int) pe_int)) pa_nil)) pe_int)) (pss_cons (ps_set (i := 5) sc__law_draw.nd rfl (Or.inl rfl) (pe_op op_mod (pe_callTy call_int1 rfl G.g_int (by rfl) (pa_cons (pe_op op_mul (pv 5) (pe_op op_add (pe_op op_fdiv (pv 5) pe_int) pe_int)) pa_nil)) pe_int)) (pss_one (ps_ret (pe_op op_mod (pe_callTy call_int1 rfl G.g_int (by rfl) (pa_cons (pe_op op_fdiv (pv 5) pe_int) pa_nil)) (pv 1))))))))))), ?_⟩))
  · obtain ⟨_, _, rfl, _⟩ := h
    rfl
  · obtain ⟨p, m, rfl, hP, hm1, hm2, k⟩ := h
    refine ⟨fun σ' H' => (∃ v, σ' = [some (.ref p), some (.int m), v, none, none, none]) ∧ Pool H' p ∧ Kp p H H', ?_, ?_⟩
    · have hP0 := hP
      obtain ⟨g, s', n, kk, gs, ss, hp, gp, sp, n0, k0, hg, pg, lg, hs, ps, ls⟩ := hP
      refine ⟨_, rfl, .inl ⟨p, _, 2, _, rfl, rfl, sq_of hp, rfl, rfl, _, rfl, ?_⟩⟩
      have skip : (fun σ' H' => (∃ v, σ' = [some (V.ref p), some (V.int m), v, none, none, none]) ∧ Pool H' p ∧ Kp p H H') (start ["_law_pool_here", "_law_many", "_law_great", "_law_digit", "_law_seed", "_law_number"] [.ref p, .int m]) H := ⟨⟨none, rfl⟩, hP0, Kp.refl p H⟩
      cases hd : decide (V.int n = V.int 0) with
      | false => exact skip
      | true =>
        refine ⟨_, rfl, .inl ⟨p, _, 0, _, rfl, rfl, sq_of hp, rfl, .ref g, gs.length, rfl, .inl ⟨_, sq_of hg, by rw [List.length_map]⟩, _, _, rfl, rfl, _, rfl, ?_⟩⟩
        cases gs with
        | nil => exact skip
        | cons g0 gs =>
          have hgt : decide ((0 : Int) < (((g0 :: gs).length : Nat) : Int)) = true := decide_eq_true (by simp)
          rw [hgt]
          refine ⟨_, rfl, .inl ⟨p, _, 0, _, rfl, rfl, sq_of hp, rfl, ?_⟩⟩
          refine ⟨_, rfl, .inl ⟨g, _, 0, .int g0, rfl, rfl, sq_of hg, (show atI ((g0 :: gs).map V.int) ((0 : Nat) : Int) = some (.int g0) from atI_nat rfl), ?_⟩⟩
          refine ⟨_, rfl, 1, rfl, g, _, rfl, sq_of hg, fun l hl => ?_⟩
          have ec : cutV ((g0 :: gs).map V.int) (some 1) none = gs.map V.int := cut_drop ((g0 :: gs).map V.int) 1
          rw [ec]
          refine ⟨(by show 2 ≤ sizeLine; decide), fun T hT => ⟨T, _, rfl, st_of upd_same, rfl, _, _, rfl, ?_⟩⟩
          have npl : p ≠ l := ne_of_none hp hl
          have hp1 : upd H l (.lst (gs.map V.int)) p = some (.lst [.ref g, .ref s', .int n, .int kk]) := by rw [upd_ne npl]; exact hp
          have npT : p ≠ T := ne_of_none hp1 hT
          have nlT : l ≠ T := ne_of_none upd_same hT
          have nsl : s' ≠ l := ne_of_none hs hl
          have hs1 : upd H l (.lst (gs.map V.int)) s' = some (.lst (ss.map V.int)) := by rw [upd_ne nsl]; exact hs
          have nsT : s' ≠ T := ne_of_none hs1 hT
          refine ⟨_, rfl, p, _, 2, 2, rfl, rfl, (by rw [upd_ne npT]; exact hp1), rfl, _, _, rfl, _, rfl, p, _, 0, 0, rfl, rfl, upd_same, rfl, rfl, ⟨_, rfl⟩, ?_, ?_⟩
          · refine ⟨l, s', g0, kk, gs, ss, upd_same, npl.symm, sp, pg g0 (by simp), k0, ?_, fun x hx => pg x (by simp [hx]), by simp at lg; omega, ?_, ps, ls⟩
            · rw [upd_ne npl.symm, upd_ne npl.symm, upd_ne nlT, upd_same]
            · rw [upd_ne sp, upd_ne sp, upd_ne nsT]; exact hs1
          · exact Kp.of (K0.put (K0.put (K0.new (K0.new (K0.refl p H) hl) hT))) hp upd_same (.inr hl)
    · rintro σ' H1 ⟨⟨v, rfl⟩, ⟨g, s', n, kk, gs, ss, hp, gp, sp, n0, k0, hg, pg, lg, hs, ps, ls⟩, K1⟩
      refine ⟨fun σ' H' => (∃ v2, σ' = [some (.ref p), some (.int m), v2, none, none, none]) ∧ H' = H1, ?_, ?_⟩
      · refine ⟨_, rfl, .inl ⟨p, _, 2, _, rfl, rfl, sq_of hp, rfl, _, _, rfl, rfl, _, rfl, ?_⟩⟩
        refine ite2 (fun hn => ?_) (fun _ => ⟨⟨_, rfl⟩, rfl⟩)
        have hn0 : 0 < n := of_decide_eq_true hn
        refine ⟨_, rfl, .inl ⟨p, _, 2, _, rfl, rfl, sq_of hp, rfl, .inl ⟨n, rfl, _, rfl, n, m, rfl, rfl, (by show 0 < m; omega), ?_⟩⟩⟩
        refine ⟨_, rfl, .inl ⟨p, _, 2, _, rfl, rfl, sq_of hp, rfl, _, rfl, n, m, rfl, rfl, ⟨by omega, by omega⟩, ?_⟩⟩
        refine ⟨(by show 2 ≤ sizeLine; decide), fun T hT => ⟨T, _, rfl, st_of upd_same, rfl, _, _, rfl, ?_⟩⟩
        have npT : p ≠ T := ne_of_none hp hT
        refine ⟨_, _, rfl, _, rfl, p, _, 2, 2, rfl, rfl, (by rw [upd_ne npT]; exact hp), rfl, rfl, _, rfl, ?_⟩
        refine k _ _ (Int.emod_nonneg _ (by omega)) (Int.emod_lt_of_pos _ (by omega)) (K1.trans (Kp.of (K0.put (K0.new (K0.refl p _) hT)) hp upd_same (.inl rfl))) ?_
        refine ⟨g, s', n / m, kk, gs, ss, upd_same, gp, sp, Int.ediv_nonneg n0 (by omega), k0, ?_, pg, lg, ?_, ps, ls⟩
        · rw [upd_ne gp, upd_ne (ne_of_none hg hT)]; exact hg
        · rw [upd_ne sp, upd_ne (ne_of_none hs hT)]; exact hs
      · rintro σ' H2 ⟨⟨v2, rfl⟩, rfl⟩
        refine ⟨_, rfl, .inl ⟨p, _, 3, _, rfl, rfl, sq_of hp, rfl, kk, 1, rfl, rfl, ?_⟩⟩
        refine ⟨_, rfl, p, _, 3, 3, rfl, rfl, hp, rfl, ?_⟩
        have K3 : Kp p H (upd H2 p (.lst ([.ref g, .ref s', .int n, .int kk].set 3 (.int (kk + 1))))) := K1.trans (Kp.of (K0.put (K0.refl p _)) hp upd_same (.inl rfl))
        have hp3 : upd H2 p (.lst ([.ref g, .ref s', .int n, .int kk].set 3 (.int (kk + 1)))) p = some (.lst [.ref g, .ref s', .int n, .int (kk + 1)]) := upd_same
        have hg3 : upd H2 p (.lst ([.ref g, .ref s', .int n, .int kk].set 3 (.int (kk + 1)))) g = some (.lst (gs.map V.int)) := by rw [upd_ne gp]; exact hg
        have hs3 : upd H2 p (.lst ([.ref g, .ref s', .int n, .int kk].set 3 (.int (kk + 1)))) s' = some (.lst (ss.map V.int)) := by rw [upd_ne sp]; exact hs
        generalize upd H2 p (.lst ([.ref g, .ref s', .int n, .int kk].set 3 (.int (kk + 1)))) = H3 at K3 hp3 hg3 hs3
        have P3 : Pool H3 p := ⟨g, s', n, kk + 1, gs, ss, hp3, gp, sp, n0, by omega, hg3, pg, lg, hs3, ps, ls⟩
        -- the seed
        refine ⟨_, rfl, .inl ⟨p, _, 1, _, rfl, rfl, sq_of hp3, rfl, (by show 1 ≤ sizeLine; decide), fun b hb => ?_⟩⟩
        have e4 : Ex H3 (upd H3 b (.lst [.int 0])) := Ex.new hb
        refine ⟨s', b, _, _, rfl, rfl, e4 _ _ hs3, upd_same, (by rw [List.length_map]; exact Nat.le_trans (Nat.add_le_add_right ls 1) (by decide)), fun c hc => ?_⟩
        have e5 : Ex H3 (upd (upd H3 b (.lst [.int 0])) c (.lst (ss.map V.int ++ [.int 0]))) := e4.trans (Ex.new hc)
        have hc5 : upd (upd H3 b (.lst [.int 0])) c (.lst (ss.map V.int ++ [.int 0])) c = some (.lst (ss.map V.int ++ [.int 0])) := upd_same
        generalize upd (upd H3 b (.lst [.int 0])) c (.lst (ss.map V.int ++ [.int 0])) = H5 at e5 hc5
        have hp5 := e5 _ _ hp3
        have hs5 := e5 _ _ hs3
        have P5 : Pool H5 p := P3.ex e5
        have K5 : Kp p H H5 := K3.trans (Kp.ex e5 P3)
        refine ⟨_, rfl, .inl ⟨p, _, 3, _, rfl, rfl, sq_of hp5, rfl, .inl ⟨kk + 1, rfl, ?_⟩⟩⟩
        refine ⟨_, rfl, .inl ⟨p, _, 1, _, rfl, rfl, sq_of hp5, rfl, .ref s', ss.length, rfl, .inl ⟨_, sq_of hs5, by rw [List.length_map]⟩, 1, (ss.length : Int), rfl, ?_⟩⟩
        generalize hmx : (if ((ss.length : Nat) : Int) > 1 then ((ss.length : Nat) : Int) else 1) = mx
        have hmx1 : 1 ≤ mx ∧ mx ≤ (ss.length : Int) + 1 := by
          rw [← hmx]
          split <;> omega
        have hj0 : 0 ≤ (kk + 1) % mx := Int.emod_nonneg _ (by omega)
        have hj1 : (kk + 1) % mx < mx := Int.emod_lt_of_pos _ (by omega)
        obtain ⟨z, hz⟩ : ∃ z, (ss ++ [0])[((kk + 1) % mx).toNat]? = some z := ⟨_, List.getElem?_eq_getElem (by rw [List.length_append, List.length_singleton]; omega)⟩
        have hz2 : (ss.map V.int ++ [.int 0])[((kk + 1) % mx).toNat]? = some (V.int z) := by
          have e : ss.map V.int ++ [.int 0] = (ss ++ [0]).map V.int := by simp
          rw [e, List.getElem?_map, hz]
          rfl
        refine ⟨kk + 1, mx, rfl, rfl, (by show 0 < mx; omega), .inl ⟨c, _, _, .int z, rfl, rfl, sq_of hc5, at_of (j := ((kk + 1) % mx).toNat) (by omega) hz2, ?_⟩⟩
        -- the numbers
        refine ⟨_, rfl, _, rfl, .inl ⟨p, _, 3, _, rfl, rfl, sq_of hp5, rfl, 7919, kk + 1, rfl, rfl, .inl ⟨by decide, by decide⟩, z, _, rfl, rfl, _, 1, rfl, rfl, _, 48271, rfl, rfl, .inr ⟨by decide, by decide⟩, .inl ⟨_, rfl, _, 2147483647, rfl, rfl, (by show (0 : Int) < 2147483647; decide), ?_⟩⟩⟩
        dsimp only
        generalize h1 : (z + 7919 * (kk + 1) + 1) * 48271 % 2147483647 = n1
        have b1 : 0 ≤ n1 ∧ n1 < 2147483647 := by rw [← h1]; exact ⟨Int.emod_nonneg _ (by decide), Int.emod_lt_of_pos _ (by decide)⟩
        refine ⟨_, rfl, _, rfl, n1, 1009, rfl, rfl, ⟨by decide, by decide⟩, _, 69621, rfl, rfl, n1, _, rfl, rfl, .inl ⟨by omega, by omega⟩, .inl ⟨_, rfl, _, 2147483647, rfl, rfl, (by show (0 : Int) < 2147483647; decide), ?_⟩⟩
        dsimp only
        generalize h2 : n1 * (n1 / 1009 + 69621) % 2147483647 = n2
        have b2 : 0 ≤ n2 ∧ n2 < 2147483647 := by rw [← h2]; exact ⟨Int.emod_nonneg _ (by decide), Int.emod_lt_of_pos _ (by decide)⟩
        refine ⟨_, rfl, _, rfl, n2, 2003, rfl, rfl, ⟨by decide, by decide⟩, _, 40692, rfl, rfl, n2, _, rfl, rfl, .inl ⟨by omega, by omega⟩, .inl ⟨_, rfl, _, 2147483399, rfl, rfl, (by show (0 : Int) < 2147483399; decide), ?_⟩⟩
        exact ⟨_, rfl, _, 16, rfl, rfl, ⟨by decide, by decide⟩, .inl ⟨_, rfl, _, rfl, _, m, rfl, rfl, (by show 0 < m; omega), k _ _ (Int.emod_nonneg _ (by omega)) (Int.emod_lt_of_pos _ (by omega)) K5 P5⟩⟩
abbrev s__law_pick : Stmt := top 23
theorem sc__law_pick : FnScope ["_law_pool_here", "_law_items"] ["_law_pool_here", "_law_items"] (defScope s__law_pick) := ⟨rfl, rfl, rfl, by decide +kernel, rfl, by decide +kernel, by decide +kernel⟩
def spPick : Sp := fun vs H Q _ => ∃ (p a : Addr) (xs : List V), vs = [.ref p, .ref a] ∧ Pool H p ∧ a ≠ p ∧ (H a = some (.lst xs) ∨ H a = some (.tup xs)) ∧ xs ≠ [] ∧ xs.length ≤ 1000 ∧ ∀ x H', x ∈ xs → Kp p H H' → Pool H' p → Q x H'
theorem ok_pick (G : Gz mg) (D : Df K mg "_law_pick" s__law_pick f fd ["_law_pool_here", "_law_items"]) (c__law_draw : Callee P w K mg base CXn 1 "_law_draw" 2 spDraw) : Callee P w K mg base CXn 2 "_law_pick" 2 spPick := by
  refine D.callee (D.fn.ok sc__law_pick (fun vs H Q E h => ?_) (fun cdv A outer s H vs Q E hr h => ⟨_, PSs.nox (pss_one (ps_ret (pe_ix (ixK (K := K) rfl) (pv 1) (pe_cl (E := En) c__law_draw (hr.mono (by decide)) rfl passN (pa_cons (pv 0) (pa_cons (pe_callB (lenK (K := K) rfl) rfl G.g_len PySem.boot_len (pa_cons (pv 1) pa_nil)) pa_nil))) (fun _ _ => rfl)))), ?_⟩))
  · obtain ⟨_, _, _, rfl, _⟩ := h
    rfl
  · obtain ⟨p, a, xs, rfl, hP, nap, hx, hne, hl, k⟩ := h
    have hlen : LenV K (.ref a) H xs.length := hx.elim (fun z => .inl ⟨_, sq_of z, rfl⟩) fun z => .inr ⟨_, st_of z, rfl⟩
    have hpos : 0 < xs.length := List.length_pos_iff.mpr hne
    refine ⟨_, rfl, _, rfl, _, rfl, .ref a, xs.length, rfl, hlen, p, _, rfl, hP, by omega, by omega, fun d H1 d0 d1 K1 P1 => ?_⟩
    obtain ⟨x, hxd⟩ : ∃ x, xs[d.toNat]? = some x := ⟨_, List.getElem?_eq_getElem (by omega)⟩
    have fin := k x H1 (List.mem_of_getElem? hxd) K1 P1
    rcases hx with hx | hx
    · exact .inl ⟨a, xs, d, x, rfl, rfl, sq_of (K1.k _ _ nap hx), at_of (j := d.toNat) (by omega) hxd, fin⟩
    · exact .inr (.inl ⟨a, xs, d, x, rfl, rfl, st_of (K1.k _ _ nap hx), at_of (j := d.toNat) (by omega) hxd, fin⟩)
def sg (c : Nat) : Str := ⟨#[c]⟩
abbrev abc : Str := "abcdefghijklmnopqrstuvwxyz"
theorem abc_at : ∀ j : Fin 26, abc.cps.toList[j.1]? = some (97 + j.1) := by decide +kernel
theorem abc_len : abc.cps.toList.length = 26 := by decide +kernel
theorem abc_mem {c : Nat} (h : c ∈ abc.cps.toList) : 97 ≤ c ∧ c ≤ 122 := by
  obtain ⟨j, hj⟩ := List.getElem?_of_mem h
  have hl := (List.getElem?_eq_some_iff.mp hj).1
  rw [abc_len] at hl
  rw [abc_at ⟨j, hl⟩] at hj
  cases hj
  show 97 ≤ 97 + j ∧ 97 + j ≤ 122
  omega
theorem join_sg : ∀ cs : List Nat, (Str.join "" (cs.map sg)).cps.toList = cs
  | [] => rfl
  | [c] => rfl
  | c :: d :: r => by
    have ih := join_sg (d :: r)
    show (sg c ++ "" ++ Str.join "" ((d :: r).map sg)).cps.toList = _
    rw [Str.cps_append, Str.cps_append, Array.toList_append, Array.toList_append, ih]
    rfl
theorem txt_ext {a b : Str} (h : a.cps.toList = b.cps.toList) : a = b := str_ext h
theorem inV_str (z : Str) (zs : List Str) : inV (.str z) (zs.map V.str) = decide (z ∈ zs) := by
  unfold inV
  rw [Bool.eq_iff_iff, List.any_eq_true]
  constructor
  · rintro ⟨y, hy, e⟩
    obtain ⟨u, hu, rfl⟩ := List.mem_map.mp hy
    have e2 : (u == z) = true := e
    rw [← beq_iff_eq.mp e2]
    exact decide_eq_true hu
  · intro h
    refine ⟨.str z, List.mem_map.mpr ⟨z, of_decide_eq_true h, rfl⟩, ?_⟩
    show (z == z) = true
    exact beq_self_eq_true z
theorem flat_strs (zs : List Str) : (zs.map V.str).all flatV = true := by
  rw [List.all_eq_true]
  intro v hv
  obtain ⟨z, _, rfl⟩ := List.mem_map.mp hv
  rfl
/-- more different ones than places -/
theorem pigeon {α : Type} [DecidableEq α] : ∀ (l m : List α), l.Nodup → (∀ x ∈ l, x ∈ m) → l.length ≤ m.length
  | [], m, _, _ => Nat.zero_le _
  | a :: l, m, nd, h => by
    obtain ⟨na, nd2⟩ := List.nodup_cons.mp nd
    have ih := pigeon l (m.erase a) nd2 fun x hx => by
      have hm := h x (List.mem_cons_of_mem _ hx)
      have ne : x ≠ a := fun z => na (z ▸ hx)
      exact (List.mem_erase_of_ne ne).mpr hm
    have hm := h a List.mem_cons_self
    rw [List.length_erase_of_mem hm] at ih
    have : 0 < m.length := List.length_pos_of_mem hm
    rw [List.length_cons]
    omega
/-- the letter behind the first nine -/
def nx9 (z : Str) : V → Str
  | .str c => cutS z none (some 9) ++ c
  | _ => z
theorem cut9 (z : Str) : (cutS z none (some 9)).cps.toList = z.cps.toList.take 9 := by
  unfold cutS
  rw [HT.sIx_none]
  have e : HT.sIx z.length z.length (some 9) = min 9 z.length := HT.sIx_nat z.length z.length 9
  rw [e]
  show ((z.cps.toList.drop 0).take (min 9 z.length - 0)) = z.cps.toList.take 9
  rw [List.drop_zero, Nat.sub_zero]
  have hl : z.cps.toList.length = z.length := Array.length_toList
  rcases Nat.le_total 9 z.length with h | h
  · rw [Nat.min_eq_left h]
  · rw [Nat.min_eq_right h, List.take_of_length_le (by omega), List.take_of_length_le (by omega)]
theorem nx9_cps (z : Str) (c : Nat) : (nx9 z (.str (sg c))).cps.toList = z.cps.toList.take 9 ++ [c] := by
  show (cutS z none (some 9) ++ sg c).cps.toList = _
  rw [Str.cps_append, Array.toList_append, cut9]
  rfl
theorem nx9_inj {z : Str} {c d : Nat} (h : nx9 z (.str (sg c)) = nx9 z (.str (sg d))) : c = d := by
  have e1 := nx9_cps z c
  rw [h, nx9_cps z d] at e1
  have e2 := List.append_cancel_left e1
  simpa using e2.symm
theorem nx9_some (z : Str) (zs : List Str) (hz : zs.length ≤ 20) : ∃ c r, (chs abc).filter (fun x => !decide (nx9 z x ∈ zs)) = .str (sg c) :: r ∧ c ∈ abc.cps.toList ∧ nx9 z (.str (sg c)) ∉ zs := by
  have mem : ∀ x ∈ chs abc, ∃ c, c ∈ abc.cps.toList ∧ V.str (sg c) = x := fun x hx => by
    unfold chs at hx
    exact List.mem_map.mp hx
  cases e : (chs abc).filter (fun x => !decide (nx9 z x ∈ zs)) with
  | nil =>
    have all : ∀ x ∈ (chs abc).map (nx9 z), x ∈ zs := fun y hy => by
      obtain ⟨x, hx, rfl⟩ := List.mem_map.mp hy
      have h := List.filter_eq_nil_iff.mp e x hx
      simpa using h
    have nd : ((chs abc).map (nx9 z)).Nodup := by
      unfold chs
      rw [List.map_map]
      have nd0 : abc.cps.toList.Nodup := by decide +kernel
      exact List.Pairwise.map _ (fun c d hcd z2 => hcd (nx9_inj z2)) nd0
    have h1 := pigeon _ _ nd all
    rw [List.length_map, chs_len] at h1
    have h2 : abc.length = 26 := by decide +kernel
    omega
  | cons x r =>
    have hx : x ∈ (chs abc).filter (fun x => !decide (nx9 z x ∈ zs)) := by rw [e]; exact List.mem_cons_self
    obtain ⟨h1, h2⟩ := List.mem_filter.mp hx
    obtain ⟨c, hc, rfl⟩ := mem x h1
    exact ⟨c, r, rfl, hc, by simpa using h2⟩
theorem nx9_nm {z : Str} {c : Nat} (h : IsNm z) (hc : 97 ≤ c ∧ c ≤ 122) : IsNm (nx9 z (.str (sg c))) := by
  have e := nx9_cps z c
  have hl : (nx9 z (.str (sg c))).length = (z.cps.toList.take 9 ++ [c]).length := by rw [← e, Array.length_toList]; rfl
  rw [List.length_append, List.length_take, List.length_singleton] at hl
  refine ⟨by omega, by omega, fun d hd => ?_⟩
  rw [e] at hd
  rcases List.mem_append.mp hd with hd | hd
  · exact h.2.2 d (List.mem_of_mem_take hd)
  · rw [List.mem_singleton.mp hd]; exact hc
abbrev s__law_name : Stmt := top 24
theorem sc__law_name : FnScope ["_law_pool_here", "_law_taken", "_law_letters", "_law_size", "_law_name_here", "_law_k", "_law_letter"] ["_law_pool_here", "_law_taken"] (defScope s__law_name) := ⟨rfl, rfl, rfl, by decide +kernel, rfl, by decide +kernel, by decide +kernel⟩
def spName : Sp := fun vs H Q _ => ∃ (p a : Addr) (zs : List Str), vs = [.ref p, .ref a] ∧ Pool H p ∧ a ≠ p ∧ H a = some (.lst (zs.map V.str)) ∧ zs.length ≤ 20 ∧ ∀ z H', IsNm z → z ∉ zs → Kp p H H' → Pool H' p → Q (.str z) H'
theorem ok_name (G : Gz mg) (D : Df K mg "_law_name" s__law_name f fd ["_law_pool_here", "_law_taken"]) (c__law_draw : Callee P w K mg base CXn 1 "_law_draw" 2 spDraw) : Callee P w K mg base CXn 2 "_law_name" 2 spName := by
  refine D.callee (D.fn.ok sc__law_name (fun vs H Q E h => ?_) (fun cdv A outer s H vs Q E hr h => ⟨_, PSs.nox (pss_cons (ps_set (i := 2) sc__law_name.nd rfl (Or.inr rfl) pe_str) (pss_cons (ps_set (i := 3) sc__law_name.nd rfl (Or.inl rfl) (pe_ix (ixK (K := K) rfl) (pe_lst (pa_cons pe_int (pa_cons pe_int (pa_cons pe_int (pa_cons pe_int (pa_cons pe_int (pa_cons pe_int (pa_cons pe_int pa_nil)))))))) (pe_cl (E := En) c__law_draw (hr.mono (by decide)) rfl passN (pa_cons (pv 0) (pa_cons pe_int pa_nil))) (fun _ _ => rfl))) (pss_cons (ps_set (i := 4) sc__law_name.nd rfl (Or.inr rfl) (pe_join pe_str (pe_lc (own := [("_law_k", 5)]) rfl sc__law_name.nd (pi_range1 rfl G.g_range (pa_cons (pv 3) pa_nil)) (BlkOk.mk (N := ["_law_pool_here", "_law_taken", "_law_letters", "_law_size", "_law_name_here", "_law_k", "_law_letter"]) (sc := defScope s__law_name) rfl (by decide +kernel) (by decide +kernel) (by decide +kernel) (by decide +kernel)) (fun _ _ _ _ _ => (pg_name (i := 5) sc__law_name.nd rfl (Or.inl rfl))) (fun _ _ _ _ _ => pts_nil) (fun _ _ _ _ _ => (pe_ix (ixK (K := K) rfl) (pv 2) (pe_cl (E := En) c__law_draw (hr.mono (by decide)) rfl passN (pa_cons (pv 0) (pa_cons pe_int pa_nil))) (fun _ _ => rfl)))))) (pss_cut (ps_if (pt_cmpR (inK (K := K) rfl) (pv 4) (pv 1) (by rfl)) (pss_one (ps_set (i := 4) sc__law_name.nd rfl (Or.inr rfl) (pe_ix (ixK (K := K) rfl) (pe_lc (own := [("_law_letter", 6)]) rfl sc__law_name.nd (pi_str (pv 2)) (BlkOk.mk (N := ["_law_pool_here", "_law_taken", "_law_letters", "_law_size", "_law_name_here", "_law_k", "_law_letter"]) (sc := defScope s__law_name) rfl (by decide +kernel) (by decide +kernel) (by decide +kernel) (by decide +kernel)) (fun _ _ _ _ _ => (pg_name (i := 6) sc__law_name.nd rfl (Or.inl rfl))) (fun _ _ _ _ _ => (pts_one (pt_cmpR (notInK (K := K) rfl) (pe_op op_add_str (pe_slice sl_str (pv 4) po_none (po_some pe_int)) (pv 6)) (pv 1) (by rfl)))) (fun _ _ _ _ _ => (pe_op op_add_str (pe_slice sl_str (pv 4) po_none (po_some pe_int)) (pv 6)))) pe_int (fun _ _ => rfl)))) pss_nil) (pss_one (ps_ret (pv 4))))))), ?_⟩))
  · obtain ⟨_, _, _, rfl, _⟩ := h
    rfl
  · obtain ⟨p, a, zs, rfl, hP, nap, ha, hz, k⟩ := h
    refine ⟨(by show 7 ≤ sizeLine; decide), fun l hl => ⟨_, rfl, p, 7, rfl, hP.ex (Ex.new hl), by decide, by decide, fun d H1 d0 d1 K1' P1 => ?_⟩⟩
    have hm : ∃ m : Int, ([.int 1, .int 1, .int 2, .int 3, .int 4, .int 6, .int 10] : List V)[d.toNat]? = some (.int m) ∧ 1 ≤ m ∧ m ≤ 10 := by
      have hd : d = 0 ∨ d = 1 ∨ d = 2 ∨ d = 3 ∨ d = 4 ∨ d = 5 ∨ d = 6 := by omega
      rcases hd with rfl | rfl | rfl | rfl | rfl | rfl | rfl <;> exact ⟨_, rfl, by decide, by decide⟩
    obtain ⟨m, hm, m1, m10⟩ := hm
    have nlp : l ≠ p := fun z => hP.here (z ▸ hl)
    have K1 : Kp p H H1 := (Kp.ex (Ex.new hl) hP).trans K1'
    refine .inl ⟨l, _, d, .int m, rfl, rfl, sq_of (K1'.k l _ nlp upd_same), at_of (j := d.toNat) (by omega) hm, ?_⟩
    refine ⟨⟨_, rfl⟩, _, rfl, m, rfl, by omega, by omega, fun D hD => ?_⟩
    obtain ⟨hD0, nDp⟩ := K1.free P1 hD
    refine lc_range (fun i H' => ∃ cs : List Nat, cs.length = i ∧ (∀ c ∈ cs, 97 ≤ c ∧ c ≤ 122) ∧ H' D = some (.lst (cs.map fun c => .str (sg c))) ∧ Kp p H H' ∧ Pool H' p ∧ Apart H' p D) ?_ ?_ ?_
    · obtain ⟨_, ap⟩ := Apart.new (o := .lst []) P1 hD
      exact ⟨[], rfl, fun c hc => (nomatch hc), upd_same, K1.new P1 hD, P1.ex (Ex.new hD), ap⟩
    · rintro i H' hi ⟨cs, hcl, hcs, hd, K2, P2, A2⟩
      refine ⟨rfl, _, rfl, _, rfl, p, 26, rfl, P2, by decide, by decide, fun e H3 e0 e1 K3 P3 => ?_⟩
      have he : abc.cps.toList[e.toNat]? = some (97 + e.toNat) := abc_at ⟨e.toNat, by omega⟩
      have hd3 := K3.k D _ nDp hd
      refine .inr (.inr ⟨abc, e, 97 + e.toNat, rfl, rfl, (by decide), (by have q := atI_nat (xs := abc.cps.toList) he; rwa [show ((e.toNat : Nat) : Int) = e by omega] at q), _, hd3, ?_, ?_⟩)
      · rw [List.length_map]
        exact sz_lt (by omega)
      · have hd2 : H' D ≠ none := some_ne hd
        refine ⟨cs ++ [97 + e.toNat], by rw [List.length_append, hcl]; rfl, fun c hc => ?_, ?_, (K2.trans K3).mut hD0 nDp, P3.mut nDp (K3.a D nDp hd2 A2), Apart.mut nDp (K3.a D nDp hd2 A2)⟩
        · rcases List.mem_append.mp hc with hc | hc
          · exact hcs c hc
          · rw [List.mem_singleton.mp hc]; omega
        · rw [upd_same, List.map_append]
          rfl
    rintro H' ⟨cs, hcl, hcs, hd, K2, P2, A2⟩
    refine ⟨_, D, cs.map sg, rfl, rfl, .inl (sq_of (by rw [hd, List.map_map]; rfl)), ?_, ?_⟩
    · have h1 : (cs.map sg).map (·.length) = cs.map fun _ => 1 := by rw [List.map_map]; rfl
      have h2 : (cs.map fun _ => (1 : Nat)).sum = cs.length := by
        clear h1 hd hcs hcl
        induction cs with
        | nil => rfl
        | cons c r ih => rw [List.map_cons, List.sum_cons, ih, List.length_cons]; omega
      rw [h1, h2]
      show cs.length + (cs.map sg).length * 0 ≤ 16777216
      omega
    have hjn : (Txt.join "" (cs.map sg)).cps.toList = cs := by rw [show Txt.join "" (cs.map sg) = Str.join "" (cs.map sg) from StrLaws.glued_eq_join _ _]; exact join_sg cs
    generalize hzz : Txt.join "" (cs.map sg) = z at hjn ⊢
    have zl : z.length = cs.length := by rw [← hjn, Array.length_toList]; rfl
    have nz : IsNm z := ⟨by omega, by omega, fun c hc => hcs c (hjn ▸ hc)⟩
    have ha2 := K2.k a _ nap ha
    refine ⟨fun σ' H2 => ∃ y v5 v6, σ' = [some (.ref p), some (.ref a), some (.str abc), some (.int m), some (.str y), v5, v6] ∧ IsNm y ∧ y ∉ zs ∧ Kp p H H2 ∧ Pool H2 p, ?_, ?_⟩
    · refine ⟨_, rfl, _, rfl, a, _, rfl, .inl (sq_of ha2), rfl, flat_strs zs, _, rfl, ?_⟩
      show if (inV (.str z) (zs.map V.str)) = true then _ else _
      rw [inV_str]
      refine ite2 (fun hin => ?_) (fun hno => ⟨z, none, none, rfl, nz, fun z2 => hno (decide_eq_true z2), K2, P2⟩)
      refine ⟨_, rfl, abc, rfl, fun D2 hD2 => ?_⟩
      have lz : z.length ≤ sizeLine := Nat.le_trans nz.2.1 (by decide)
      have lc9 : ∀ c, (cutS z none (some 9)).length + (sg c).length ≤ sizeLine := fun c => by
        have h1 : (cutS z none (some 9)).length = ((cutS z none (some 9)).cps.toList).length := by rw [Array.length_toList]; rfl
        rw [cut9, List.length_take] at h1
        have h2 : (sg c).length = 1 := rfl
        exact Nat.le_trans (by omega : _ ≤ 10) (by decide)
      have mem : ∀ x ∈ chs abc, ∃ c, c ∈ abc.cps.toList ∧ V.str (sg c) = x := fun x hx => by
        unfold chs at hx
        exact List.mem_map.mp hx
      refine lc_ev (f := fun x => !decide (nx9 z x ∈ zs)) (v := fun x => .str (nx9 z x)) st_s (by rw [chs_len]; decide +kernel) (fun x => rfl) hD2 (fun x hx H3 e Q q => ?_) (fun x hx _ H3 e Q q => ?_) (fun H3 e3 hd3 => ?_)
      · obtain ⟨c, hc, rfl⟩ := mem x hx
        refine ⟨_, rfl, 9, rfl, z, rfl, lz, _, rfl, _, sg c, rfl, rfl, lc9 c, _, rfl, a, _, rfl, .inl (sq_of (e _ _ ha2)), rfl, flat_strs zs, _, rfl, ?_⟩
        show Q (!inV (.str (nx9 z (.str (sg c)))) (zs.map V.str)) H3
        rw [inV_str]
        exact q H3 (Ex.refl _)
      · obtain ⟨c, hc, rfl⟩ := mem x hx
        exact ⟨_, rfl, 9, rfl, z, rfl, lz, _, rfl, _, sg c, rfl, rfl, lc9 c, q H3 (Ex.refl _)⟩
      · obtain ⟨c, r, e, hc, hn⟩ := nx9_some z zs hz
        rw [e] at hd3
        refine .inl ⟨D2, _, 0, .str (nx9 z (.str (sg c))), rfl, rfl, sq_of hd3, (show atI _ ((0 : Nat) : Int) = _ from atI_nat rfl), ?_⟩
        exact ⟨_, _, _, rfl, nx9_nm nz (abc_mem hc), hn, K2.trans (Kp.ex e3 P2), P2.ex e3⟩
    · rintro σ' H2 ⟨y, v5, v6, rfl, ny, hy, K5, P5⟩
      exact ⟨_, rfl, k y H2 ny hy K5 P5⟩
abbrev s__law_names : Stmt := top 25
theorem sc__law_names : FnScope ["_law_pool_here", "_law_many", "_law_names_here", "_law_k"] ["_law_pool_here", "_law_many"] (defScope s__law_names) := ⟨rfl, rfl, rfl, by decide +kernel, rfl, by decide +kernel, by decide +kernel⟩
def spNames : Sp := fun vs H Q _ => ∃ (p : Addr) (m : Int), vs = [.ref p, .int m] ∧ Pool H p ∧ 0 ≤ m ∧ m ≤ 20 ∧ ∀ (a : Addr) (zs : List Str) (H' : Hp), zs.length = m.toNat → zs.Nodup → (∀ z ∈ zs, IsNm z) → Kp p H H' → Pool H' p → H a = none → a ≠ p → H' a = some (.lst (zs.map V.str)) → Q (.ref a) H'
theorem ok_names (G : Gz mg) (D : Df K mg "_law_names" s__law_names f fd ["_law_pool_here", "_law_many"]) (c__law_name : Callee P w K mg base CXn 2 "_law_name" 2 spName) : Callee P w K mg base CXn 3 "_law_names" 2 spNames := by
  refine D.callee (D.fn.ok sc__law_names (fun vs H Q E h => ?_) (fun cdv A outer s H vs Q E hr h => ⟨_, PSs.nox (pss_cons (ps_set (i := 2) sc__law_names.nd rfl (Or.inl rfl) (pe_lst pa_nil)) (pss_cons (ps_for PassesOwn.never rfl (pi_range1 rfl G.g_range (pa_cons (pv 1) pa_nil)) (pg_name (i := 3) sc__law_names.nd rfl (Or.inl rfl)) (pss_one (ps_expr (pe_bm PySem.F.plainAttrs_list PySem.F.slot_list_append PySem.F.type_list_append mt_append (pv 2) (pa_cons (pe_cl (E := En) c__law_name (hr.mono (by decide)) rfl passN (pa_cons (pv 0) (pa_cons (pv 2) pa_nil))) pa_nil))))) (pss_one (ps_ret (pv 2))))), ?_⟩))
  · obtain ⟨_, _, rfl, _⟩ := h
    rfl
  · obtain ⟨p, m, rfl, hP, m0, m20, k⟩ := h
    refine ⟨Nat.zero_le _, fun l hl => ?_⟩
    obtain ⟨nlp, al⟩ := Apart.new (o := .lst []) hP hl
    refine ⟨_, rfl, m, rfl, by omega, by omega, for_range (fun i σ' H' => (∃ v, σ' = [some (.ref p), some (.int m), some (.ref l), v]) ∧ ∃ zs : List Str, zs.length = i ∧ zs.Nodup ∧ (∀ z ∈ zs, IsNm z) ∧ H' l = some (.lst (zs.map V.str)) ∧ Kp p H H' ∧ Pool H' p ∧ Apart H' p l) ?_ ?_ ?_⟩
    · exact ⟨⟨none, rfl⟩, [], rfl, List.nodup_nil, fun z hz => (nomatch hz), upd_same, (Kp.refl p H).new hP hl, hP.ex (Ex.new hl), al⟩
    · rintro i σ' H' hi ⟨⟨v, rfl⟩, zs, hzl, nd, nm, hd, K1, P1, A1⟩
      refine ⟨_, rfl, .inl ⟨rfl, _, sq_of hd⟩, _, rfl, _, rfl, p, l, zs, rfl, P1, nlp, hd, by omega, fun z H2 nz hz K2 P2 => ?_⟩
      have hd2 := K2.k l _ nlp hd
      have A2 := K2.a l nlp (some_ne hd) A1
      refine ⟨l, _, _, rfl, rfl, hd2, ?_, ⟨_, rfl⟩, zs ++ [z], by rw [List.length_append, hzl]; rfl, ?_, ?_, ?_, (K1.trans K2).mut hl nlp, P2.mut nlp A2, Apart.mut nlp A2⟩
      · rw [List.length_map]
        exact sz_lt (by omega)
      · rw [List.nodup_append]
        refine ⟨nd, by simp, fun x hx y hy => ?_⟩
        rw [List.mem_singleton.mp hy]
        exact fun e => hz (e ▸ hx)
      · intro x hx
        rcases List.mem_append.mp hx with hx | hx
        · exact nm x hx
        · rw [List.mem_singleton.mp hx]; exact nz
      · rw [upd_same, List.map_append]
        rfl
    · rintro σ' H' ⟨⟨v, rfl⟩, zs, hzl, nd, nm, hd, K1, P1, A1⟩
      exact ⟨_, rfl, k l zs H' hzl nd nm K1 P1 hl nlp hd⟩
end
end WK

set_option Elab.async false
set_option linter.all false
set_option maxRecDepth 100000
set_option maxHeartbeats 4000000
namespace WK
open PySem PySem.Spec PyProof.Rows L2 WW Evl
section
variable {P : Program} {w : World} {K : PySem.W.Frag} {mg : Str → Option Value} {base : Heap} {f : Addr} {fd : FuncData}
abbrev s__law_whole : Stmt := top 26
theorem sc__law_whole : FnScope ["_law_thing"] ["_law_thing"] (defScope s__law_whole) := ⟨rfl, rfl, rfl, by decide +kernel, rfl, by decide +kernel, by decide +kernel⟩
theorem okl_whole (G : Gz mg) (D : Df K mg "_law_whole" s__law_whole f fd ["_law_thing"]) : Callee P w K mg base CXn 1 "_law_whole" 1 spIsIntegerG := by
  refine D.callee (D.fn.ok sc__law_whole (fun vs H Q E h => ?_) (fun cdv A outer s H vs Q E hr h => ⟨_, PSs.nox (pss_one (ps_ret (L2.pe_and (pe_callB (isiK (K := K) rfl) rfl G.g_isinstance (by rfl) (pa_cons (pv 0) (pa_cons (pe_bltn (v := .ty "int") rfl G.g_int (by rfl) rfl) pa_nil))) (pe_one (pe_not (pe_callB (isiK (K := K) rfl) rfl G.g_isinstance (by rfl) (pa_cons (pv 0) (pa_cons (pe_bltn (v := .ty "bool") rfl G.g_bool (by rfl) rfl) pa_nil)))))))), ?_⟩))
  · obtain ⟨i, rfl, _⟩ := h
    rfl
  · obtain ⟨v, rfl, hv, k⟩ := h
    obtain ⟨t, g⟩ := hv.kin (K := K)
    have q := k H (Ex.refl _)
    refine ⟨_, rfl, v, .ty "int", t, .type "int", isI v || isB v, rfl, .ty _, g.ty, g.int, isI v || isB v, rfl, ?_⟩
    cases hi : isI v with
    | true =>
      have hb := not_both hi
      rw [hi] at q
      exact ⟨_, rfl, v, .ty "bool", t, .type "bool", false, rfl, .ty _, g.ty, hb ▸ g.bool, false, rfl, q⟩
    | false =>
      rw [hi] at q
      cases hb : isB v with
      | true => exact ⟨_, rfl, v, .ty "bool", t, .type "bool", true, rfl, .ty _, g.ty, hb ▸ g.bool, true, rfl, q⟩
      | false => exact q
abbrev s__law_is_state : Stmt := top 27
theorem sc__law_is_state : FnScope ["_law_thing"] ["_law_thing"] (defScope s__law_is_state) := ⟨rfl, rfl, rfl, by decide +kernel, rfl, by decide +kernel, by decide +kernel⟩
theorem okl_is_state (G : Gz mg) (D : Df K mg "_law_is_state" s__law_is_state f fd ["_law_thing"]) (c__law_whole : Callee P w K mg base CXn 1 "_law_whole" 1 spIsIntegerG) : Callee P w K mg base CXn 2 "_law_is_state" 1 spIsStateG := by
  refine D.callee (D.fn.ok sc__law_is_state (fun vs H Q E h => ?_) (fun cdv A outer s H vs Q E hr h => ⟨_, PSs.nox (pss_one (ps_ret (L2.pe_and (pe_cl (E := En) c__law_whole (hr.mono (by decide)) rfl passN (pa_cons (pv 0) pa_nil)) (pe_one (pe_chain op_le op_le pe_int (pv 0) pe_int))))), ?_⟩))
  · obtain ⟨i, rfl, _⟩ := h
    rfl
  · obtain ⟨v, rfl, hv, k⟩ := h
    refine ⟨_, rfl, v, rfl, hv, fun H1 e1 => ⟨isI v, rfl, ?_⟩⟩
    have q := k H1 e1
    cases v with
    | int i =>
      refine ⟨_, rfl, 0, i, rfl, rfl, decide ((0 : Int) ≤ i), rfl, ?_⟩
      cases hd : decide ((0 : Int) ≤ i) with
      | false =>
        have e : isSt (.int i) = false := by show (decide (0 ≤ i) && decide (i ≤ 99)) = false; rw [hd]; rfl
        rw [e] at q
        exact q
      | true =>
        have e : isSt (.int i) = decide (i ≤ 99) := by show (decide (0 ≤ i) && decide (i ≤ 99)) = _; rw [hd]; rfl
        rw [e] at q
        exact ⟨i, 99, rfl, rfl, q⟩
    | _ => exact q
/-- not a letter -/
def odd : V → Bool
  | .str z => !(z.cps.toList.all fun c => ltB c)
  | _ => false
theorem abc_all : ∀ j : Fin 26, (97 + j.1) ∈ abc.cps.toList := by decide +kernel
theorem abc_iff (c : Nat) : decide (c ∈ abc.cps.toList) = ltB c := by
  rw [Bool.eq_iff_iff]
  unfold ltB
  constructor
  · intro h
    have := abc_mem (of_decide_eq_true h)
    rw [decide_eq_true this.1, decide_eq_true this.2]
    rfl
  · intro h
    have h1 := of_decide_eq_true (Bool.and_eq_true_iff.mp h).1
    have h2 := of_decide_eq_true (Bool.and_eq_true_iff.mp h).2
    have q := abc_all ⟨c - 97, by omega⟩
    have e : 97 + (c - 97) = c := by omega
    exact decide_eq_true (e ▸ q)
theorem odd_none (l : List Nat) : decide ((((l.map fun c => V.str ⟨#[c]⟩).filter odd).length : Int) = 0) = l.all fun c => ltB c := by
  induction l with
  | nil => rfl
  | cons c l ih =>
    rw [List.map_cons, List.filter_cons, List.all_cons]
    have e : odd (.str ⟨#[c]⟩) = !ltB c := by show (!([c].all fun c => ltB c)) = _; simp
    rw [e]
    cases ltB c with
    | true => simpa using ih
    | false =>
      simp
      omega
abbrev s__law_is_name : Stmt := top 28
theorem sc__law_is_name : FnScope ["_law_thing", "_law_letter"] ["_law_thing"] (defScope s__law_is_name) := ⟨rfl, rfl, rfl, by decide +kernel, rfl, by decide +kernel, by decide +kernel⟩
theorem okl_is_name (G : Gz mg) (D : Df K mg "_law_is_name" s__law_is_name f fd ["_law_thing"]) : Callee P w K mg base CXn 1 "_law_is_name" 1 spIsNameG := by
  refine D.callee (D.fn.ok sc__law_is_name (fun vs H Q E h => ?_) (fun cdv A outer s H vs Q E hr h => ⟨_, PSs.nox (pss_cons (ps_if (PW.pt (pw_or (pt_not (pt_val (pe_callB (isiK (K := K) rfl) rfl G.g_isinstance (by rfl) (pa_cons (pv 0) (pa_cons (pe_bltn (v := .ty "str") rfl G.g_str (by rfl) rfl) pa_nil))))) (pw_or (pt_cmpR op_lt (pe_callB (lenK (K := K) rfl) rfl G.g_len PySem.boot_len (pa_cons (pv 0) pa_nil)) pe_int (nomark _)) (pw_or1 (pt_cmpR op_gt (pe_callB (lenK (K := K) rfl) rfl G.g_len PySem.boot_len (pa_cons (pv 0) pa_nil)) pe_int (nomark _)))))) (pss_one (ps_ret pe_bl)) pss_nil) (pss_one (ps_ret (pe_cmpR op_eq (pe_callB (lenK (K := K) rfl) rfl G.g_len PySem.boot_len (pa_cons (pe_lc (own := [("_law_letter", 1)]) rfl sc__law_is_name.nd (pi_str (pv 0)) (BlkOk.mk (N := ["_law_thing", "_law_letter"]) (sc := defScope s__law_is_name) rfl (by decide +kernel) (by decide +kernel) (by decide +kernel) (by decide +kernel)) (fun _ _ _ _ _ => (pg_name (i := 1) sc__law_is_name.nd rfl (Or.inl rfl))) (fun _ _ _ _ _ => (pts_one (pt_cmpR op_notIn_sign (pv 1) pe_str (by rfl)))) (fun _ _ _ _ _ => (pv 1))) pa_nil)) pe_int (nomark _))))), ?_⟩))
  · obtain ⟨i, rfl, _⟩ := h
    rfl
  · obtain ⟨v, rfl, hv, hz, k⟩ := h
    obtain ⟨t, g⟩ := hv.kin (K := K)
    refine ⟨_, rfl, v, .ty "str", t, .type "str", isS v, rfl, .ty _, g.ty, g.str, isS v, rfl, ?_⟩
    have q0 := k H (Ex.refl _)
    cases v with
    | str z =>
      have hl : LenV K (.str z) H z.length := ⟨Nat.le_trans (hz z rfl) (by decide), rfl⟩
      refine iteF ⟨_, rfl, .str z, z.length, rfl, hl, (z.length : Int), 1, rfl, rfl, decide ((z.length : Int) < 1), rfl, ?_⟩
      by_cases h1 : (z.length : Int) < 1
      · have e : nmB (.str z) = false := by rw [nmB_str, decide_eq_false (show ¬ 1 ≤ (z.length : Int) by omega)]; rfl
        rw [e] at q0
        rw [decide_eq_true h1]
        exact iteT q0
      rw [decide_eq_false h1]
      refine iteF ⟨_, rfl, .str z, z.length, rfl, hl, (z.length : Int), 10, rfl, rfl, decide ((z.length : Int) > 10), rfl, ?_⟩
      by_cases h2 : (z.length : Int) > 10
      · have e : nmB (.str z) = false := by rw [nmB_str, decide_eq_false (show ¬ (z.length : Int) ≤ 10 by omega)]; cases decide (1 ≤ (z.length : Int)) <;> rfl
        rw [e] at q0
        rw [decide_eq_true h2]
        exact iteT q0
      rw [decide_eq_false h2]
      have e : nmB (.str z) = z.cps.toList.all fun c => ltB c := by rw [nmB_str, decide_eq_true (show 1 ≤ (z.length : Int) by omega), decide_eq_true (show (z.length : Int) ≤ 10 by omega)]; rfl
      rw [e] at k
      refine iteF ⟨.str z, rfl, z, rfl, fun D hD => ?_⟩
      refine lc_ev (f := odd) (v := fun x => x) st_s (by rw [chs_len]; have := hz z rfl; omega) (fun x => rfl) hD (fun x hx H1 e Q q => ?_) (fun x hx _ H1 e Q q => ⟨_, rfl, q H1 (Ex.refl _)⟩) (fun H' e hd => ?_)
      · obtain ⟨c, hm, rfl⟩ : ∃ c, c ∈ z.cps.toList ∧ V.str ⟨#[c]⟩ = x := by unfold chs at hx; simpa using hx
        refine ⟨_, rfl, c, abc, rfl, rfl, ?_⟩
        have q1 := q H1 (Ex.refl _)
        have ec : odd (.str ⟨#[c]⟩) = !ltB c := by show (!([c].all fun c => ltB c)) = _; simp
        rw [ec] at q1
        rw [abc_iff]
        exact ⟨_, rfl, q1⟩
      · refine ⟨.ref D, _, rfl, .inl ⟨_, sq_of hd, rfl⟩, rfl, ?_⟩
        have e3 : decide (V.int ((((chs z).filter odd).map fun x => x).length : Nat) = V.int 0) = z.cps.toList.all fun c => ltB c := by
          rw [← odd_none, Bool.eq_iff_iff]
          unfold chs
          simp
        rw [e3]
        exact k H' e
    | _ => exact iteT q0
abbrev s__law_is_step : Stmt := top 29
theorem sc__law_is_step : FnScope ["_law_thing"] ["_law_thing"] (defScope s__law_is_step) := ⟨rfl, rfl, rfl, by decide +kernel, rfl, by decide +kernel, by decide +kernel⟩
theorem okl_is_step (G : Gz mg) (D : Df K mg "_law_is_step" s__law_is_step f fd ["_law_thing"]) (c__law_is_state : Callee P w K mg base CXn 2 "_law_is_state" 1 spIsStateG) (c__law_is_name : Callee P w K mg base CXn 1 "_law_is_name" 1 spIsNameG) : Callee P w K mg base CXn 3 "_law_is_step" 1 spIsStepG := by
  refine D.callee (D.fn.ok sc__law_is_step (fun vs H Q E h => ?_) (fun cdv A outer s H vs Q E hr h => ⟨_, PSs.nox (pss_cons (ps_if (PW.pt (pw_or (pt_not (pt_val (pe_callB (isiK (K := K) rfl) rfl G.g_isinstance (by rfl) (pa_cons (pv 0) (pa_cons (pe_bltn (v := .ty "tuple") rfl G.g_tuple (by rfl) rfl) pa_nil))))) (pw_or1 (pt_cmpR op_ne (pe_callB (lenK (K := K) rfl) rfl G.g_len PySem.boot_len (pa_cons (pv 0) pa_nil)) pe_int (nomark _))))) (pss_one (ps_ret pe_bl)) pss_nil) (pss_one (ps_ret (L2.pe_and (pe_cl (E := En) c__law_is_state (hr.mono (by decide)) rfl passN (pa_cons (pe_ix (ixK (K := K) rfl) (pv 0) pe_int (fun _ _ => rfl)) pa_nil)) (L2.pe_and (pe_cl (E := En) c__law_is_name (hr.mono (by decide)) rfl passN (pa_cons (pe_ix (ixK (K := K) rfl) (pv 0) pe_int (fun _ _ => rfl)) pa_nil)) (pe_one (pe_cl (E := En) c__law_is_state (hr.mono (by decide)) rfl passN (pa_cons (pe_ix (ixK (K := K) rfl) (pv 0) pe_int (fun _ _ => rfl)) pa_nil)))))))), ?_⟩))
  · obtain ⟨_, rfl, _⟩ := h
    rfl
  · obtain ⟨v, rfl, ⟨hv, h3⟩, k⟩ := h
    obtain ⟨t, g⟩ := hv.kin (K := K)
    have q0 := k H (Ex.refl _)
    refine ⟨_, rfl, v, .ty "tuple", t, .type "tuple", isT H v, rfl, .ty _, g.ty, g.tuple, isT H v, rfl, ?_⟩
    cases hv with
    | tup ha =>
      rename_i a xs
      rw [show isT H (.ref a) = true from isT_at ha]
      by_cases hl : xs.length = 3
      · refine iteF ⟨_, rfl, .ref a, xs.length, rfl, .inr ⟨_, st_of ha, rfl⟩, rfl, false, ?_, iteF ?_⟩
        · show V.bl (!decide (V.int (xs.length : Nat) = V.int 3)) = V.bl false
          rw [hl, decide_eq_true (show V.int ((3 : Nat) : Int) = V.int 3 from rfl)]
          rfl
        match xs, hl with
        | [x, y, z], _ =>
          obtain ⟨px, py, pz, ty⟩ := h3 a x y z rfl ha
          have e : stpB H (.ref a) = (isSt x && (nmB y && isSt z)) := stpB_at ha
          rw [e] at k
          refine ⟨_, rfl, .inr (.inl ⟨a, _, 0, _, rfl, rfl, st_of ha, (by rfl), x, rfl, px, fun H1 e1 => ⟨isSt x, rfl, ?_⟩⟩)⟩
          cases hx : isSt x with
          | false =>
            have q := k H1 e1
            rw [hx] at q
            exact iteF q
          | true =>
            refine iteT ⟨_, rfl, .inr (.inl ⟨a, _, 1, _, rfl, rfl, st_of (e1 _ _ ha), (by rfl), y, rfl, py.ex e1, ty, fun H2 e2 => ⟨nmB y, rfl, ?_⟩⟩)⟩
            cases hy : nmB y with
            | false =>
              have q := k H2 (e1.trans e2)
              rw [hx, hy] at q
              exact iteF q
            | true =>
              refine iteT ⟨_, rfl, .inr (.inl ⟨a, _, 2, _, rfl, rfl, st_of (e2 _ _ (e1 _ _ ha)), (by rfl), z, rfl, pz.ex (e1.trans e2), fun H3 e3 => ?_⟩)⟩
              have q := k H3 (e1.trans (e2.trans e3))
              rw [hx, hy] at q
              exact q
      · refine iteF ⟨_, rfl, .ref a, xs.length, rfl, .inr ⟨_, st_of ha, rfl⟩, rfl, true, ?_, iteT ?_⟩
        · show V.bl (!decide (V.int (xs.length : Nat) = V.int 3)) = V.bl true
          rw [decide_eq_false (fun z => hl (by have := V.int.inj z; omega))]
          rfl
        have e : stpB H (.ref a) = false := (stpB_at ha).trans (stpO_not hl)
        rw [e] at q0
        exact q0
    | lst ha =>
      rename_i a xs
      rw [show isT H (.ref a) = false from isT_at ha]
      rw [show stpB H (.ref a) = false from stpB_at ha] at q0
      exact iteT q0
    | dct ha =>
      rename_i a xs
      rw [show isT H (.ref a) = false from isT_at ha]
      rw [show stpB H (.ref a) = false from stpB_at ha] at q0
      exact iteT q0
    | _ => exact iteT q0
end
end WK

set_option Elab.async false
set_option linter.all false
set_option maxRecDepth 100000
set_option maxHeartbeats 4000000
namespace WK
open PySem PySem.Spec PyProof.Rows L2 WW Evl
section
variable {K : PySem.W.Frag} {H : Hp} {a : Addr} {xs : List V}
theorem ix_go {i : Nat} {x : V} {Q : VK} (hx : SqX H a xs) (hi : xs[i]? = some x) (q : Q x H) : rIx K (.ref a) (.int (i : Int)) H Q := by
  rcases hx with hx | hx
  · exact .inl ⟨a, xs, i, x, rfl, rfl, sq_of hx, at_of (j := i) rfl hi, q⟩
  · exact .inr (.inl ⟨a, xs, i, x, rfl, rfl, st_of hx, at_of (j := i) rfl hi, q⟩)
theorem islc_go {σ : L2.St} {i j n : Nat} {R : It → Hp → Prop} (h1 : σ[i]? = some (some (.ref a))) (h2 : σ[j]? = some (some (.int (n : Int)))) (hx : SqX H a xs) (k : ∀ J H', Ex H H' → Steady J H' (xs.take n) → R J H') (hn : n ≤ xs.length) :
    iOr (iList K (tSl (fun x l h H Q => rSlL K x l h H Q ∨ rSlA K x l h H Q) (tVar i) tNoPart (tPart (tVar j)))) (iTup K (tSl (fun x l h H Q => rSlL K x l h H Q ∨ rSlA K x l h H Q) (tVar i) tNoPart (tPart (tVar j)))) σ H R := by
  rcases hx with hx | hx
  · refine .inl ⟨_, h1, _, h2, n, rfl, .inl ⟨a, xs, rfl, sq_of hx, fun l hl => ⟨l, rfl, ⟨_, sq_of upd_same⟩, ?_⟩⟩⟩
    rw [cut_take]
    exact k _ _ (Ex.new hl) (st_l (sq_of upd_same))
  · refine .inr ⟨_, h1, _, h2, n, rfl, .inr ⟨a, xs, rfl, st_of hx, fun ⟨_, z⟩ => ⟨a, rfl, ⟨_, st_of hx⟩, k _ _ (Ex.refl _) ?_⟩, fun _ l hl => ⟨l, rfl, ⟨_, st_of upd_same⟩, ?_⟩⟩⟩
    · rw [HT.sIx_nat] at z
      have e : xs.take n = xs := List.take_of_length_le (by omega)
      rw [e]
      exact st_t (st_of hx)
    · rw [cut_take]
      exact k _ _ (Ex.new hl) (st_t (st_of upd_same))
end
theorem cnt_snoc (u t : Stp) (ts : List Stp) : cnt u (ts ++ [t]) = cnt u ts + if t.1 = u.1 then 1 else 0 := by
  unfold cnt
  rw [List.filter_append, List.length_append, List.filter_cons]
  by_cases e : t.1 = u.1 <;> simp [e]
theorem cnt_same {u t : Stp} (e : t.1 = u.1) (ts : List Stp) : cnt u ts = cnt t ts := by unfold cnt; rw [e]
theorem pl_lst {H : Hp} {v : V} (h : Pl H v) : ((isL H v || isT H v) = false ∧ ∀ l m, rowB H v l m = false) ∨ ((isL H v || isT H v) = true ∧ ∃ a xs, v = .ref a ∧ SqX H a xs) := by
  cases h with
  | lst h => exact .inr ⟨by rw [show isL H _ = true from isL_at h]; rfl, _, _, rfl, .inl h⟩
  | tup h => exact .inr ⟨by rw [show isL H _ = false from isL_at h, show isT H _ = true from isT_at h]; rfl, _, _, rfl, .inr h⟩
  | dct h => exact .inl ⟨by rw [show isL H _ = false from isL_at h, show isT H _ = false from isT_at h]; rfl, fun l m => by unfold rowB; rw [rlen_at h]; rfl⟩
  | _ => exact .inl ⟨rfl, fun _ _ => rfl⟩
theorem sqx_row {H : Hp} {a : Addr} {xs : List V} (h : SqX H a xs) (l m : Int) : rowB H (.ref a) l m = (decide (l ≤ (xs.length : Int)) && decide ((xs.length : Int) ≤ m)) := by
  unfold rowB
  rcases h with h | h <;> rw [rlen_at h] <;> rfl
section
variable {P : Program} {w : World} {K : PySem.W.Frag} {mg : Str → Option Value} {base : Heap} {f : Addr} {fd : FuncData}
theorem sqx_len {H : Hp} {a : Addr} {xs : List V} (h : SqX H a xs) : LenV K (.ref a) H xs.length := h.elim (fun h => .inl ⟨xs, sq_of h, rfl⟩) fun h => .inr ⟨xs, st_of h, rfl⟩
/-- isinstance(v, (list, tuple)) -/
theorem isiT_go {H : Hp} {v : V} {Q : VK} {p : Addr} (hv : Pl H v) (hp : H p = none) (q : Q (.bl (isL H v || isT H v)) (upd H p (.tup [.ty "list", .ty "tuple"]))) : rIsiT K [v, .ref p] (upd H p (.tup [.ty "list", .ty "tuple"])) Q := by
  have e1 : Ex H (upd H p (.tup [.ty "list", .ty "tuple"])) := Ex.new hp
  obtain ⟨t, g⟩ := (hv.ex e1).kin (K := K)
  have same : isL (upd H p (.tup [.ty "list", .ty "tuple"])) v = isL H v ∧ isT (upd H p (.tup [.ty "list", .ty "tuple"])) v = isT H v := by
    cases hv with
    | lst h => exact ⟨(isL_at (e1 _ _ h)).trans (isL_at h).symm, (isT_at (e1 _ _ h)).trans (isT_at h).symm⟩
    | tup h => exact ⟨(isL_at (e1 _ _ h)).trans (isL_at h).symm, (isT_at (e1 _ _ h)).trans (isT_at h).symm⟩
    | dct h => exact ⟨(isL_at (e1 _ _ h)).trans (isL_at h).symm, (isT_at (e1 _ _ h)).trans (isT_at h).symm⟩
    | _ => exact ⟨rfl, rfl⟩
  rw [← same.1, ← same.2] at q
  exact ⟨v, p, _, t, [.type "list", .type "tuple"], _, rfl, upd_same, .cons (.ty _) (.cons (.ty _) .nil), g.ty,
    kitAny_cons g.list (fun z => by rw [z]; exact kitAny_cons g.tuple (fun z2 => by rw [z2]; rfl) (fun z2 => by rw [z2]; rfl)) (fun z => by rw [z]; rfl), q⟩
abbrev s__law_due : Stmt := top 30
theorem sc__law_due : FnScope ["_law_start", "_law_steps", "_law_at", "_law_old"] ["_law_start", "_law_steps"] (defScope s__law_due) := ⟨rfl, rfl, rfl, by decide +kernel, rfl, by decide +kernel, by decide +kernel⟩
def spDue : Sp := fun vs H Q _ => ∃ v1 v2, vs = [v1, v2] ∧ Pl H v1 ∧ Pl H v2 ∧
  (isSt v1 = false → ∀ H' T, Ex H H' → H' T = some (.tup [.str "start", v1]) → Q (.ref T) H') ∧
  (isSt v1 = true → rowB H v2 1 20 = false → ∀ H' T, Ex H H' → H' T = some (.tup [.str "steps", .int (-1)]) → Q (.ref T) H') ∧
  (isSt v1 = true → rowB H v2 1 20 = true → ∃ a xs os, v2 = .ref a ∧ SqX H a xs ∧ xs.length ≤ 20 ∧ Paired (ItAt H) xs os ∧ (∀ i : Nat, fb [] 0 os = some i → ∀ H' T, Ex H H' → H' T = some (.tup [.str "steps", .int i]) → Q (.ref T) H') ∧
    (fb [] 0 os = none → ∀ H' T, Ex H H' → H' T = some (.tup [.str "hand", .int 0]) → Q (.ref T) H'))
theorem okl_due (G : Gz mg) (D : Df K mg "_law_due" s__law_due f fd ["_law_start", "_law_steps"]) (c__law_is_state : Callee P w K mg base CXn 2 "_law_is_state" 1 spIsStateG) (c__law_is_step : Callee P w K mg base CXn 3 "_law_is_step" 1 spIsStepG) : Callee P w K mg base CXn 4 "_law_due" 2 spDue := by
  refine D.callee (D.fn.ok sc__law_due (fun vs H Q E h => ?_) (fun cdv A outer s H vs Q E hr h => ⟨_, PSs.nox (pss_cons (ps_if (pt_not (pt_val (pe_cl (E := En) c__law_is_state (hr.mono (by decide)) rfl passN (pa_cons (pv 0) pa_nil)))) (pss_one (ps_ret (pe_tup (pa_cons pe_str (pa_cons (pv 0) pa_nil))))) pss_nil) (pss_cons (ps_if (PW.pt (pw_or (pt_not (pt_val (pe_callB call_isiT rfl G.g_isinstance (by rfl) (pa_cons (pv 1) (pa_cons (pe_tup (pa_cons (pe_bltn (v := .ty "list") rfl G.g_list (by rfl) rfl) (pa_cons (pe_bltn (v := .ty "tuple") rfl G.g_tuple (by rfl) rfl) pa_nil))) pa_nil))))) (pw_or (pt_cmpR op_lt (pe_callB (lenK (K := K) rfl) rfl G.g_len PySem.boot_len (pa_cons (pv 1) pa_nil)) pe_int (nomark _)) (pw_or1 (pt_cmpR op_gt (pe_callB (lenK (K := K) rfl) rfl G.g_len PySem.boot_len (pa_cons (pv 1) pa_nil)) pe_int (nomark _)))))) (pss_one (ps_ret (pe_tup (pa_cons pe_str (pa_cons (pe_un un_neg pe_int) pa_nil))))) pss_nil) (pss_cons (ps_for PassesOwn.never rfl (pi_range1 rfl G.g_range (pa_cons (pe_callB (lenK (K := K) rfl) rfl G.g_len PySem.boot_len (pa_cons (pv 1) pa_nil)) pa_nil)) (pg_name (i := 2) sc__law_due.nd rfl (Or.inr rfl)) (pss_cons (ps_if (PW.pt (pw_or (pt_not (pt_val (pe_cl (E := En) c__law_is_step (hr.mono (by decide)) rfl passN (pa_cons (pe_ix (ixK (K := K) rfl) (pv 1) (pv 2) (fun _ _ => rfl)) pa_nil)))) (pw_or1 (pt_cmpR ((op_inD (room65 hr)).or (op_inDT (room65 hr))) (pe_ix (ixK (K := K) rfl) (pv 1) (pv 2) (fun _ _ => rfl)) (pe_slice (sl_list.or sl_tupA) (pv 1) po_none (po_some (pv 2))) (by rfl))))) (pss_one (ps_ret (pe_tup (pa_cons pe_str (pa_cons (pv 2) pa_nil))))) pss_nil) (pss_one (ps_if (pt_cmpR op_eq (pe_callB (lenK (K := K) rfl) rfl G.g_len PySem.boot_len (pa_cons (pe_lc (own := [("_law_old", 3)]) rfl sc__law_due.nd (pi_or (pi_list (pe_slice (sl_list.or sl_tupA) (pv 1) po_none (po_some (pv 2)))) (pi_tup (pe_slice (sl_list.or sl_tupA) (pv 1) po_none (po_some (pv 2))))) (BlkOk.mk (N := ["_law_start", "_law_steps", "_law_at", "_law_old"]) (sc := defScope s__law_due) rfl (by decide +kernel) (by decide +kernel) (by decide +kernel) (by decide +kernel)) (fun _ _ _ _ _ => (pg_name (i := 3) sc__law_due.nd rfl (Or.inl rfl))) (fun _ _ _ _ _ => (pts_one (pt_cmpR op_eq (pe_ix (ixK (K := K) rfl) (pv 3) pe_int (fun _ _ => rfl)) (pe_ix (ixK (K := K) rfl) (pe_ix (ixK (K := K) rfl) (pv 1) (pv 2) (fun _ _ => rfl)) pe_int (fun _ _ => rfl)) (nomark _)))) (fun _ _ _ _ _ => (pv 3))) pa_nil)) pe_int (nomark _)) (pss_one (ps_ret (pe_tup (pa_cons pe_str (pa_cons (pv 2) pa_nil))))) pss_nil)))) (pss_one (ps_ret (pe_tup (pa_cons pe_str (pa_cons pe_int pa_nil)))))))), ?_⟩))
  · obtain ⟨_, _, rfl, _⟩ := h
    rfl
  · obtain ⟨v1, v2, rfl, g1, g2, h1, h2, h3⟩ := h
    refine ⟨_, rfl, v1, rfl, g1, fun H1 e1 => ⟨isSt v1, rfl, ?_⟩⟩
    cases hst : isSt v1 with
    | false => exact iteT ⟨_, rfl, (by show 2 ≤ sizeLine; decide), fun T hT => h1 hst _ T (e1.trans (Ex.new hT)) upd_same⟩
    | true =>
    refine iteF ⟨_, rfl, (by decide), fun p hp => ?_⟩
    dsimp only [tNil]
    refine isiT_go (K := K) (g2.ex e1) hp ⟨isL H1 v2 || isT H1 v2, rfl, ?_⟩
    have e2 : Ex H (upd H1 p (.tup [.ty "list", .ty "tuple"])) := e1.trans (Ex.new hp)
    generalize upd H1 p (.tup [.ty "list", .ty "tuple"]) = H2 at e2
    have bad : rowB H v2 1 20 = false → ∀ T, H2 T = none → Q (.ref T) (upd H2 T (.tup [.str "steps", .int (-1)])) := fun z T hT => h2 hst z _ T (e2.trans (Ex.new hT)) upd_same
    rcases pl_lst (g2.ex e1) with ⟨hb, hr1⟩ | ⟨hb, _⟩
    · rw [hb]
      exact iteT ⟨1, rfl, (by show 2 ≤ sizeLine; decide), fun T hT => bad ((rowB_ex e1 g2).symm.trans (hr1 1 20)) T hT⟩
    rw [hb]
    rcases pl_lst g2 with ⟨hb2, _⟩ | ⟨_, a, xs, rfl, hx⟩
    · have q1 : (isL H1 v2 || isT H1 v2) = (isL H v2 || isT H v2) := by
        cases g2 with
        | lst h => rw [isL_at h, isT_at h, isL_at (e1 _ _ h), isT_at (e1 _ _ h)]
        | tup h => rw [isL_at h, isT_at h, isL_at (e1 _ _ h), isT_at (e1 _ _ h)]
        | dct h => rw [isL_at h, isT_at h, isL_at (e1 _ _ h), isT_at (e1 _ _ h)]
        | _ => rfl
      rw [q1, hb2] at hb
      cases hb
    have hrow := sqx_row hx 1 20
    refine iteF ⟨_, rfl, .ref a, xs.length, rfl, sqx_len (hx.ex e2), (xs.length : Int), 1, rfl, rfl, decide ((xs.length : Int) < 1), rfl, ?_⟩
    by_cases l1 : (xs.length : Int) < 1
    · rw [decide_eq_true l1]
      rw [decide_eq_false (show ¬ 1 ≤ (xs.length : Int) by omega)] at hrow
      exact iteT ⟨1, rfl, (by show 2 ≤ sizeLine; decide), fun T hT => bad hrow T hT⟩
    rw [decide_eq_false l1]
    refine iteF ⟨_, rfl, .ref a, xs.length, rfl, sqx_len (hx.ex e2), (xs.length : Int), 20, rfl, rfl, decide ((xs.length : Int) > 20), rfl, ?_⟩
    by_cases l2 : (xs.length : Int) > 20
    · rw [decide_eq_true l2]
      rw [decide_eq_false (show ¬ (xs.length : Int) ≤ 20 by omega)] at hrow
      exact iteT ⟨1, rfl, (by show 2 ≤ sizeLine; decide), fun T hT => bad (hrow.trans (by cases decide (1 ≤ (xs.length : Int)) <;> rfl)) T hT⟩
    rw [decide_eq_false l2]
    rw [decide_eq_true (show 1 ≤ (xs.length : Int) by omega), decide_eq_true (show (xs.length : Int) ≤ 20 by omega)] at hrow
    obtain ⟨a', xs', os, ea, hx', hmo, hw, hbad, hgood⟩ := h3 hst hrow
    cases ea
    have exs : xs' = xs := by
      rcases hx with hx | hx <;> rcases hx' with hx' | hx' <;> rw [hx] at hx' <;> cases hx' <;> rfl
    subst exs
    have hxl := Paired.length hw
    refine iteF ⟨_, rfl, .ref a, xs'.length, rfl, sqx_len (hx.ex e2), (xs'.length : Int), rfl, by omega, by omega, for_range (fun i σ' H' => Ex H H' ∧ (∃ v, σ' = [some v1, some (.ref a), v, none]) ∧ ∃ ts, Rw H (xs'.take i) ts ∧ (∀ t ∈ ts, GoodStep t) ∧ (∀ t, cnt t ts ≤ 3) ∧ fb [] 0 os = fb ts i (os.drop i)) ?_ ?_ ?_⟩
    · exact ⟨e2, ⟨none, rfl⟩, [], by simp; exact .nil, fun _ z => absurd z (by simp), fun _ => Nat.zero_le _, rfl⟩
    · rintro i σ' H' hi ⟨e, ⟨v, rfl⟩, ts, hts, gts, few, hfb⟩
      have hi2 : i < xs'.length := by simpa using hi
      obtain ⟨x, hxi⟩ : ∃ x, xs'[i]? = some x := ⟨_, List.getElem?_eq_getElem hi2⟩
      have hio : i < os.length := by omega
      have hdr : os.drop i = os[i] :: os.drop (i + 1) := List.drop_eq_getElem_cons hio
      have itx : ItAt H x os[i] := by
        obtain ⟨o, ho, hi3⟩ := paired_at hw hxi
        rw [List.getElem?_eq_getElem hio] at ho
        cases ho
        exact hi3
      rw [hdr] at hfb
      generalize hoi : os[i] = o at hfb itx
      rw [Int.zero_add]
      refine ⟨_, rfl, _, rfl, ix_go (hx.ex e) hxi ⟨x, rfl, itx.pl.ex e, fun H3 e3 => ⟨_, rfl, ?_⟩⟩⟩
      have e03 : Ex H H3 := e.trans e3
      rw [stpB_ex e itx.pl.1, itx.is]
      have lost : fb [] 0 os = some i → ∀ H4, Ex H H4 → ∀ T, H4 T = none → Q (.ref T) (upd H4 T (.tup [.str "steps", .int (i : Nat)])) := fun z H4 e4 T hT => hbad i z _ T (e4.trans (Ex.new hT)) upd_same
      cases o with
      | none => exact iteT ⟨_, rfl, (by show 2 ≤ sizeLine; decide), fun T hT => lost hfb H3 e03 T hT⟩
      | some t =>
        obtain ⟨⟨b, rfl, hb0⟩, gt⟩ := itx.at_ t rfl
        refine iteF ⟨_, rfl, _, rfl, ix_go (hx.ex e03) hxi ⟨_, rfl, _, rfl, _, rfl, slx_take (hx.ex e03) (Nat.le_of_lt hi2) fun q H4 e4 hq => ?_⟩⟩
        have e04 := e03.trans e4
        refine in_go ⟨b, rfl, e04 _ _ hb0⟩ hq (hts.ex e04) (fun z hz => (gts z hz).ok) gt.ok ?_
        by_cases m : t ∈ ts
        · rw [decide_eq_true m]
          exact ⟨true, rfl, iteT ⟨_, rfl, (by show 2 ≤ sizeLine; decide), fun T hT => lost (hfb.trans (if_pos (.inl m))) H4 e04 T hT⟩⟩
        rw [decide_eq_false m]
        refine ⟨false, rfl, iteF ?_⟩
        refine islc_go rfl rfl (hx.ex e04) (fun J H5 e5 S D hD => ?_) (Nat.le_of_lt hi2)
        have e05 := e04.trans e5
        have ltk : (xs'.take i).length ≤ 20 := by rw [List.length_take]; omega
        refine lc_ev (f := hit H t.1) (v := fun x => x) S (by omega) (fun x => rfl) hD (fun y my H6 e6 Q q => ?_) (fun y my _ H6 e6 Q q => ⟨_, rfl, q H6 (Ex.refl _)⟩) (fun H6 e6 hd => ?_)
        · obtain ⟨j, hj⟩ := List.getElem?_of_mem my
          obtain ⟨u, hu, c, rfl, hc⟩ := hts.at hj
          refine ⟨_, rfl, .inr (.inl ⟨c, _, 0, _, rfl, rfl, st_of ((e05.trans e6) _ _ hc), (by rfl), ?_⟩)⟩
          refine ⟨_, rfl, _, rfl, ix_go (hx.ex (e05.trans e6)) hxi (.inr (.inl ⟨b, _, 0, _, rfl, rfl, st_of ((e05.trans e6) _ _ hb0), (by rfl), rfl, _, rfl, ?_⟩))⟩
          have e1 : decide (V.int u.1 = V.int t.1) = hit H t.1 (.ref c) := by
            rw [hit_at (t := u) ⟨c, rfl, hc⟩, Bool.eq_iff_iff]
            simp
          rw [e1]
          exact q H6 (Ex.refl _)
        have e06 := e05.trans e6
        have el : (((xs'.take i).filter (hit H t.1)).map fun x => x).length = cnt t ts := by
          rw [List.length_map, hit_len hts]
          rfl
        refine ⟨.ref D, _, rfl, .inl ⟨_, sq_of hd, rfl⟩, rfl, decide (cnt t ts = 3), ?_, ?_⟩
        · rw [el]
          congr 1
          rw [Bool.eq_iff_iff]
          simp
          omega
        have f3 := few t
        by_cases c : cnt t ts = 3
        · rw [decide_eq_true c]
          exact iteT ⟨_, rfl, (by show 2 ≤ sizeLine; decide), fun T hT => lost (hfb.trans (if_pos (.inr (by omega)))) H6 e06 T hT⟩
        · rw [decide_eq_false c]
          refine iteF ⟨e06, ⟨_, rfl⟩, ts ++ [t], ?_, ?_, fun u => ?_, hfb.trans (if_neg (fun z => z.elim m (by omega)))⟩
          · have et : xs'.take (i + 1) = xs'.take i ++ [.ref b] := by rw [List.take_add_one, hxi]; rfl
            rw [et]
            exact rw_snoc ⟨b, rfl, hb0⟩ hts
          · intro u hu
            rcases List.mem_append.mp hu with hu | hu
            · exact gts u hu
            · rw [List.mem_singleton.mp hu]; exact gt
          · rw [cnt_snoc]
            by_cases eu : t.1 = u.1
            · rw [if_pos eu, cnt_same eu]
              omega
            · rw [if_neg eu]
              exact few u
    · rintro σ' H' ⟨e, ⟨v, rfl⟩, ts, _, _, _, hfb⟩
      refine ⟨(by show 2 ≤ sizeLine; decide), fun T hT => hgood ?_ _ T (e.trans (Ex.new hT)) upd_same⟩
      rw [hfb]
      have en : os.drop ((xs'.length : Int).toNat) = [] := by rw [Int.toNat_natCast, hxl]; exact List.drop_length
      first
        | rw [en]; rfl
        | (rw [hxl, List.drop_length]; rfl)
end
end WK

set_option Elab.async false
set_option linter.all false
set_option maxRecDepth 100000
set_option maxHeartbeats 4000000
namespace WK
open PySem PySem.Spec PyProof.Rows L2 WW Evl
/-- tuples stay -/
def Tu (H H' : Hp) : Prop := ∀ b ys, H b = some (.tup ys) → H' b = some (.tup ys)
theorem Tu.trans {H H1 H2 : Hp} (a : Tu H H1) (b : Tu H1 H2) : Tu H H2 := fun c ys h => b c ys (a c ys h)
theorem Tu.ex {H H' : Hp} (e : Ex H H') : Tu H H' := fun b ys h => e _ _ h
theorem Tu.lst {H : Hp} {l : Addr} {xs : List V} {o : HO} (h : H l = some (.lst xs)) : Tu H (upd H l o) := fun b ys hb => by
  rw [upd_ne (fun z => by rw [z, h] at hb; cases hb)]
  exact hb
theorem Kp.tu {p : Addr} {H H' : Hp} (hP : Pool H p) (k : Kp p H H') : Tu H H' := fun b ys hb => by
  obtain ⟨g, s, n, kk, gs, ss, h1, _⟩ := hP
  exact k.k b _ (fun z => by rw [z, h1] at hb; cases hb) hb
theorem Rw.tu {H H' : Hp} {xs : List V} {ts : List Stp} (e : Tu H H') (h : Rw H xs ts) : Rw H' xs ts := Paired.mapP h fun v t ⟨a, e1, e2⟩ => ⟨a, e1, e _ _ e2⟩
theorem StepAt.tu {H H' : Hp} {v : V} {t : Stp} (e : Tu H H') (h : StepAt H v t) : StepAt H' v t := let ⟨a, e1, e2⟩ := h; ⟨a, e1, e _ _ e2⟩
theorem Rw.app {H : Hp} : ∀ {xs ys : List V} {ts us : List Stp}, Rw H xs ts → Rw H ys us → Rw H (xs ++ ys) (ts ++ us)
  | _, _, _, _, .nil, r => r
  | _, _, _, _, .cons g r, q => .cons g (Rw.app r q)
theorem Rw.drop {H : Hp} : ∀ {xs : List V} {ts : List Stp} (n : Nat), Rw H xs ts → Rw H (xs.drop n) (ts.drop n)
  | _, _, 0, h => h
  | _, _, n + 1, .nil => by simp; exact .nil
  | _, _, n + 1, .cons _ r => by simpa using Rw.drop n r
theorem sl_take {K : PySem.W.Frag} {H : Hp} {a : Addr} {xs : List V} {n : Nat} {Q : VK} (h : H a = some (.lst xs)) (k : ∀ l, H l = none → Q (.ref l) (upd H l (.lst (xs.take n)))) : rSlL K (.ref a) none (some (n : Int)) H Q :=
  ⟨a, xs, rfl, sq_of h, fun l hl => by rw [cut_take]; exact k l hl⟩
/-- the row of steps at sl while it is filled; B: what stood before -/
structure HR (p sl : Addr) (B H : Hp) (xs : List V) (ts : List Stp) : Prop where
  at_ : H sl = some (.lst xs)
  rw_ : Rw H xs ts
  good : ∀ t ∈ ts, GoodStep t
  kp : Kp p B H
  pool : Pool H p
  ap : Apart H p sl
theorem HR.draw {p sl : Addr} {B H H2 : Hp} {xs : List V} {ts : List Stp} (h : HR p sl B H xs ts) (n : sl ≠ p) (K : Kp p H H2) (P : Pool H2 p) : HR p sl B H2 xs ts :=
  ⟨K.k sl _ n h.at_, h.rw_.tu (K.tu h.pool), h.good, h.kp.trans K, P, K.a sl n (some_ne h.at_) h.ap⟩
theorem HR.ex {p sl : Addr} {B H H2 : Hp} {xs : List V} {ts : List Stp} (h : HR p sl B H xs ts) (n : sl ≠ p) (e : Ex H H2) : HR p sl B H2 xs ts := h.draw n (Kp.ex e h.pool) (h.pool.ex e)
theorem HR.add {p sl : Addr} {B H : Hp} {xs : List V} {ts : List Stp} {x : V} {t : Stp} (h : HR p sl B H xs ts) (n : sl ≠ p) (hb : B sl = none) (hx : StepAt H x t) (g : GoodStep t) : HR p sl B (upd H sl (.lst (xs ++ [x]))) (xs ++ [x]) (ts ++ [t]) :=
  ⟨upd_same, (rw_snoc hx h.rw_).tu (Tu.lst h.at_), fun u hu => by
    rcases List.mem_append.mp hu with hu | hu
    · exact h.good u hu
    · rw [List.mem_singleton.mp hu]; exact g, h.kp.mut hb n, h.pool.mut n h.ap, Apart.mut n h.ap⟩
section
variable {P : Program} {w : World} {K : PySem.W.Frag} {mg : Str → Option Value} {base : Heap} {f : Addr} {fd : FuncData}
abbrev s__law_row : Stmt := top 32
theorem sc__law_row : FnScope ["_law_pool_here", "_law_words", "_law_first", "_law_many", "_law_steps", "_law_k", "_law_step", "_law_turn"] ["_law_pool_here"] (defScope s__law_row) := ⟨rfl, rfl, rfl, by decide +kernel, rfl, by decide +kernel, by decide +kernel⟩
def spRow : Sp := fun vs H Q _ => ∃ p : Addr, vs = [.ref p] ∧ Pool H p ∧ ∀ T b st ys us H', 0 ≤ st → st ≤ 99 → Kp p H H' → Pool H' p → b ≠ p → H' T = some (.tup [.int st, .ref b]) → H' b = some (.lst ys) → Rw H' ys us → (∀ u ∈ us, GoodStep u) → 1 ≤ ys.length → ys.length ≤ 22 → Q (.ref T) H'
theorem okl_row (G : Gz mg) (D : Df K mg "_law_row" s__law_row f fd ["_law_pool_here"]) (c__law_draw : Callee P w K mg base CXn 1 "_law_draw" 2 spDraw) (c__law_pick : Callee P w K mg base CXn 2 "_law_pick" 2 spPick) (c__law_names : Callee P w K mg base CXn 3 "_law_names" 2 spNames) : Callee P w K mg base CXn 4 "_law_row" 1 spRow := by
  refine D.callee (D.fn.ok sc__law_row (fun vs H Q E h => ?_) (fun cdv A outer s H vs Q E hr h => ⟨_, PSs.nox (pss_cons (ps_set (i := 1) sc__law_row.nd rfl (Or.inl rfl) (pe_cl (E := En) c__law_names (hr.mono (by decide)) rfl passN (pa_cons (pv 0) (pa_cons (pe_op op_add pe_int (pe_cl (E := En) c__law_draw (hr.mono (by decide)) rfl passN (pa_cons (pv 0) (pa_cons pe_int pa_nil)))) pa_nil)))) (pss_cons (ps_set (i := 2) sc__law_row.nd rfl (Or.inl rfl) (pe_cl (E := En) c__law_draw (hr.mono (by decide)) rfl passN (pa_cons (pv 0) (pa_cons pe_int pa_nil)))) (pss_cons (ps_set (i := 3) sc__law_row.nd rfl (Or.inl rfl) (pe_ix (ixK (K := K) rfl) (pe_lst (pa_cons (pe_op op_add pe_int (pe_cl (E := En) c__law_draw (hr.mono (by decide)) rfl passN (pa_cons (pv 0) (pa_cons pe_int pa_nil)))) (pa_cons (pe_op op_add pe_int (pe_cl (E := En) c__law_draw (hr.mono (by decide)) rfl passN (pa_cons (pv 0) (pa_cons pe_int pa_nil)))) (pa_cons (pe_op op_add pe_int (pe_cl (E := En) c__law_draw (hr.mono (by decide)) rfl passN (pa_cons (pv 0) (pa_cons pe_int pa_nil)))) pa_nil)))) (pe_cl (E := En) c__law_draw (hr.mono (by decide)) rfl passN (pa_cons (pv 0) (pa_cons pe_int pa_nil))) (fun _ _ => rfl))) (pss_cons (ps_set (i := 4) sc__law_row.nd rfl (Or.inl rfl) (pe_lst pa_nil)) (pss_cons (ps_for PassesOwn.never rfl (pi_range1 rfl G.g_range (pa_cons (pv 3) pa_nil)) (pg_name (i := 5) sc__law_row.nd rfl (Or.inl rfl)) (pss_cons (ps_set (i := 6) sc__law_row.nd rfl (Or.inl rfl) (pe_tup (pa_cons (pe_op op_add (pv 2) (pe_op op_fdiv (pv 5) pe_int)) (pa_cons (pe_cl (E := En) c__law_pick (hr.mono (by decide)) rfl passN (pa_cons (pv 0) (pa_cons (pv 1) pa_nil))) (pa_cons (pe_op op_add (pv 2) (pe_cl (E := En) c__law_draw (hr.mono (by decide)) rfl passN (pa_cons (pv 0) (pa_cons pe_int pa_nil)))) pa_nil))))) (pss_one (ps_if (pt_cmpR (op_notInD (room65 hr)) (pv 6) (pv 4) (by rfl)) (pss_one (ps_expr (pe_bm PySem.F.plainAttrs_list PySem.F.slot_list_append PySem.F.type_list_append mt_append (pv 4) (pa_cons (pv 6) pa_nil)))) pss_nil)))) (pss_cons (ps_set (i := 7) sc__law_row.nd rfl (Or.inl rfl) (pe_cl (E := En) c__law_draw (hr.mono (by decide)) rfl passN (pa_cons (pv 0) (pa_cons (pe_callB (lenK (K := K) rfl) rfl G.g_len PySem.boot_len (pa_cons (pv 4) pa_nil)) pa_nil)))) (pss_one (ps_ret (pe_tup (pa_cons (pe_op op_add (pv 2) (pe_cl (E := En) c__law_draw (hr.mono (by decide)) rfl passN (pa_cons (pv 0) (pa_cons pe_int pa_nil)))) (pa_cons (pe_op op_cat (pe_slice sl_list (pv 4) (po_some (pv 7)) po_none) (pe_slice sl_list (pv 4) po_none (po_some (pv 7)))) pa_nil))))))))))), ?_⟩))
  · obtain ⟨_, rfl, _⟩ := h
    rfl
  · obtain ⟨p, rfl, hP, k⟩ := h
    refine ⟨_, rfl, _, rfl, p, 5, rfl, hP, by decide, by decide, fun d H1 d0 d1 K1 P1 => ⟨1, d, rfl, rfl, p, 1 + d, rfl, P1, by omega, by omega, fun wl zs H2 zl znd znm K2 P2 hwl nwl hw2 => ?_⟩⟩
    have zlen : zs.length = (1 + d).toNat := zl
    refine ⟨_, rfl, p, 90, rfl, P2, by decide, by decide, fun fi H3 f0 f1 K3 P3 => ?_⟩
    refine ⟨_, rfl, p, 7, rfl, P3, by decide, by decide, fun a1 H4 a10 a11 K4 P4 => ⟨1, a1, rfl, rfl, _, rfl, p, 20, rfl, P4, by decide, by decide, fun a2 H5 a20 a21 K5 P5 => ⟨1, a2, rfl, rfl, _, rfl, p, 5, rfl, P5, by decide, by decide, fun a3 H6 a30 a31 K6 P6 => ⟨18, a3, rfl, rfl, (by show 3 ≤ sizeLine; decide), fun l hl => ?_⟩⟩⟩⟩
    have nlp : l ≠ p := fun z => P6.here (z ▸ hl)
    refine ⟨_, rfl, p, 3, rfl, P6.ex (Ex.new hl), by decide, by decide, fun e H7 e0 e1 K7 P7 => ?_⟩
    have hm : ∃ m : Int, ([.int (1 + a1), .int (1 + a2), .int (18 + a3)] : List V)[e.toNat]? = some (.int m) ∧ 1 ≤ m ∧ m ≤ 22 := by
      have he : e = 0 ∨ e = 1 ∨ e = 2 := by omega
      rcases he with rfl | rfl | rfl
      · exact ⟨_, rfl, by omega, by omega⟩
      · exact ⟨_, rfl, by omega, by omega⟩
      · exact ⟨_, rfl, by omega, by omega⟩
    obtain ⟨m, hm, m1, m22⟩ := hm
    refine .inl ⟨l, _, e, .int m, rfl, rfl, sq_of (K7.k l _ nlp upd_same), at_of (j := e.toNat) (by omega) hm, ?_⟩
    have K27 : Kp p H2 H7 := K3.trans (K4.trans (K5.trans ((K6.new P6 hl).trans K7)))
    have K07 : Kp p H H7 := K1.trans (K2.trans K27)
    have hw7 := K27.k wl _ nwl hw2
    refine ⟨Nat.zero_le _, fun sl hsl => ?_⟩
    obtain ⟨nslp, asl⟩ := Apart.new (o := .lst []) P7 hsl
    have key : ∀ {H' xs ts}, HR p sl H7 H' xs ts → H' wl = some (.lst (zs.map V.str)) := fun h => h.kp.k wl _ nwl hw7
    have zne2 : zs.map V.str ≠ [] := fun z => by
      have z2 := congrArg List.length z
      rw [List.length_map, zlen] at z2
      simp at z2
      omega
    refine ⟨_, rfl, m, rfl, by omega, by omega, for_range (fun i σ' H' => ∃ v5 v6 xs ts, σ' = [some (.ref p), some (.ref wl), some (.int fi), some (.int m), some (.ref sl), v5, v6, none] ∧ HR p sl H7 H' xs ts ∧ ts.length ≤ i ∧ (1 ≤ i → ts ≠ [])) ?_ ?_ ?_⟩
    · exact ⟨none, none, [], [], rfl, ⟨upd_same, .nil, fun t h => (nomatch h), (Kp.refl p H7).new P7 hsl, P7.ex (Ex.new hsl), asl⟩, Nat.le_refl _, fun z => absurd z (by decide)⟩
    · rintro i σ' H' hi ⟨v5, v6, xs, ts, rfl, I, hl, hne⟩
      have i22 : i < 22 := by omega
      refine ⟨_, rfl, _, rfl, _, 3, rfl, rfl, ⟨by decide, by decide⟩, fi, _, rfl, rfl, ?_⟩
      refine ⟨_, rfl, _, rfl, p, wl, _, rfl, I.pool, nwl, .inl (key I), zne2, (by rw [List.length_map]; omega), fun x Ha hx Ka Pa => ?_⟩
      obtain ⟨z, hz, rfl⟩ := List.mem_map.mp hx
      have I2 := I.draw nslp Ka Pa
      refine ⟨_, rfl, _, rfl, p, 8, rfl, Pa, by decide, by decide, fun g Hb g0 g1 Kb Pb => ⟨fi, g, rfl, rfl, (by show 3 ≤ sizeLine; decide), fun q hq => ?_⟩⟩
      have I3 := (I2.draw nslp Kb Pb).ex nslp (Ex.new (o := .tup [.int (fi + (0 + (i : Int)) / 3), .str z, .int (fi + g)]) hq)
      have hst : StepAt (upd Hb q (.tup [.int (fi + (0 + (i : Int)) / 3), .str z, .int (fi + g)])) (.ref q) (fi + (0 + (i : Int)) / 3, z, fi + g) := ⟨q, rfl, upd_same⟩
      have gst : GoodStep (fi + (0 + (i : Int)) / 3, z, fi + g) := ⟨by show 0 ≤ fi + (0 + (i : Int)) / 3; omega, by show fi + (0 + (i : Int)) / 3 ≤ 99; omega, znm z hz, by show 0 ≤ fi + g; omega, by show fi + g ≤ 99; omega⟩
      generalize (fi + (0 + (i : Int)) / 3, z, fi + g) = t at hst gst
      generalize upd Hb q (.tup [.int (fi + (0 + (i : Int)) / 3), .str z, .int (fi + g)]) = Hc at I3 hst
      have hlx : xs.length = ts.length := I3.rw_.len
      refine ⟨_, rfl, _, rfl, encS t, ts.map encS, hst.dp, .lst (sq_of I3.at_) I3.rw_.dps, encS_shaped gst.ok, encSs_shaped (fun z hz => (I3.good z hz).ok), ?_⟩
      rw [encSs_any]
      refine ⟨_, rfl, ?_⟩
      by_cases hmem : t ∈ ts
      · rw [decide_eq_true hmem]
        exact iteF ⟨_, _, xs, ts, rfl, I3, by omega, fun _ z => by rw [z] at hmem; cases hmem⟩
      · rw [decide_eq_false hmem]
        exact iteT ⟨_, rfl, .inl ⟨rfl, _, sq_of I3.at_⟩, _, rfl, sl, xs, .ref q, rfl, rfl, I3.at_, sz_lt (by omega), _, _, _, _, rfl, I3.add nslp hsl hst gst, by rw [List.length_append, List.length_singleton]; omega, fun _ z => by simp at z⟩
    · rintro σ' H' ⟨v5, v6, xs, ts, rfl, I, hl2, hne⟩
      have tne := hne (by omega)
      have hlx : xs.length = ts.length := I.rw_.len
      have tpos : 0 < ts.length := List.length_pos_iff.mpr tne
      have l22 : ts.length ≤ 22 := by omega
      refine ⟨_, rfl, _, rfl, .ref sl, xs.length, rfl, .inl ⟨_, sq_of I.at_, rfl⟩, p, _, rfl, I.pool, by omega, by omega, fun tu Ha t0 t1 Ka Pa => ?_⟩
      have I2 := I.draw nslp Ka Pa
      obtain ⟨n, rfl⟩ := Int.eq_ofNat_of_zero_le t0
      refine ⟨_, rfl, _, rfl, p, 3, rfl, Pa, by decide, by decide, fun g Hb g0 g1 Kb Pb => ⟨fi, g, rfl, rfl, ?_⟩⟩
      have I3 := I2.draw nslp Kb Pb
      refine ⟨_, rfl, _, rfl, _, rfl, ⟨sl, xs, rfl, sq_of I3.at_, fun l1 hl1 => ?_⟩⟩
      rw [cut_drop]
      have e1' : Ex Hb (upd Hb l1 (.lst (xs.drop n))) := Ex.new hl1
      have hL1 : upd Hb l1 (.lst (xs.drop n)) l1 = some (.lst (xs.drop n)) := upd_same
      generalize upd Hb l1 (.lst (xs.drop n)) = Hc at e1' hL1
      refine ⟨_, rfl, _, rfl, _, rfl, sl_take (e1' _ _ I3.at_) fun l2 hl2 => ?_⟩
      have e2' : Ex Hc (upd Hc l2 (.lst (xs.take n))) := Ex.new hl2
      have hL2 : upd Hc l2 (.lst (xs.take n)) l2 = some (.lst (xs.take n)) := upd_same
      generalize upd Hc l2 (.lst (xs.take n)) = Hd at e2' hL2
      refine ⟨l1, l2, _, _, rfl, rfl, e2' _ _ hL1, hL2, sz_of (by rw [List.length_take, List.length_drop]; omega), fun ol hol => ?_⟩
      have e3' : Ex Hd (upd Hd ol (.lst (xs.drop n ++ xs.take n))) := Ex.new hol
      have hO : upd Hd ol (.lst (xs.drop n ++ xs.take n)) ol = some (.lst (xs.drop n ++ xs.take n)) := upd_same
      have I4 := I3.ex nslp (e1'.trans e2')
      have nop : ol ≠ p := fun z => I4.pool.here (z ▸ hol)
      generalize upd Hd ol (.lst (xs.drop n ++ xs.take n)) = He at e3' hO
      refine ⟨(by show 2 ≤ sizeLine; decide), fun T hT => ?_⟩
      have I5 := (I4.ex nslp e3').ex nslp (Ex.new (o := .tup [.int (fi + g), .ref ol]) hT)
      have e5 : Ex He (upd He T (.tup [.int (fi + g), .ref ol])) := Ex.new hT
      refine k T ol (fi + g) _ (ts.drop n ++ ts.take n) _ (by omega) (by omega) (K07.trans I5.kp) I5.pool nop upd_same (e5 _ _ hO) ((I5.rw_.drop n).app (I5.rw_.take n)) (fun u hu => ?_) ?_ ?_
      · rcases List.mem_append.mp hu with hu | hu
        · exact I5.good u (List.mem_of_mem_drop hu)
        · exact I5.good u (List.mem_of_mem_take hu)
      · rw [List.length_append, List.length_take, List.length_drop]; omega
      · rw [List.length_append, List.length_take, List.length_drop]; omega
end
end WK

set_option Elab.async false
set_option linter.all false
set_option maxRecDepth 100000
set_option maxHeartbeats 4000000
namespace WK
open PySem PySem.Spec PyProof.Rows L2 WW Evl
theorem kp_at {p a : Addr} {H H' : Hp} {o : HO} (K : Kp p H H') (n : (V.ref a) ≠ .ref p) (h : H a = some o) : H' a = some o := K.k a o (fun z => n (z ▸ rfl)) h
theorem _root_.WW.Pl.kp {p : Addr} {H H' : Hp} {v : V} (K : Kp p H H') (n : v ≠ .ref p) (h : Pl H v) : Pl H' v := by
  cases h with
  | lst h => exact .lst (kp_at K n h)
  | tup h => exact .tup (kp_at K n h)
  | dct h => exact .dct (kp_at K n h)
  | non => exact .non
  | bl b => exact .bl b
  | int i => exact .int i
  | str z => exact .str z
theorem pl_was {p : Addr} {H H' : Hp} {v : V} (K : Kp p H H') (n : v ≠ .ref p) (h : Pl H v) {a : Addr} {o : HO} (ev : v = .ref a) (h' : H' a = some o) : H a = some o := by
  cases h with
  | lst g => cases ev; rw [kp_at K n g] at h'; cases h'; exact g
  | tup g => cases ev; rw [kp_at K n g] at h'; cases h'; exact g
  | dct g => cases ev; rw [kp_at K n g] at h'; cases h'; exact g
  | _ => cases ev
theorem stpB_kp {p : Addr} {H H' : Hp} {v : V} (K : Kp p H H') (n : v ≠ .ref p) (h : Pl H v) : stpB H' v = stpB H v := by
  cases h with
  | lst g => rw [stpB_at g, stpB_at (kp_at K n g)]
  | tup g => rw [stpB_at g, stpB_at (kp_at K n g)]
  | dct g => rw [stpB_at g, stpB_at (kp_at K n g)]
  | _ => rfl
/-- plain, short if a text, and not the pool -/
structure Sm (p : Addr) (H : Hp) (v : V) : Prop where
  pl : Pl H v
  ne : v ≠ .ref p
  sh : ∀ t, v = .str t → t.length ≤ 1000
theorem Sm.kp {p : Addr} {H H' : Hp} {v : V} (K : Kp p H H') (h : Sm p H v) : Sm p H' v := ⟨h.pl.kp K h.ne, h.ne, h.sh⟩
theorem Sm.ex {p : Addr} {H H' : Hp} {v : V} (e : Ex H H') (h : Sm p H v) : Sm p H' v := ⟨h.pl.ex e, h.ne, h.sh⟩
theorem Sm.int {p : Addr} {H : Hp} (i : Int) : Sm p H (.int i) := ⟨.int i, by simp, fun _ z => nomatch z⟩
theorem Sm.bl {p : Addr} {H : Hp} (b : Bool) : Sm p H (.bl b) := ⟨.bl b, by simp, fun _ z => nomatch z⟩
theorem Sm.non {p : Addr} {H : Hp} : Sm p H .non := ⟨.non, by simp, fun _ z => nomatch z⟩
theorem Sm.str {p : Addr} {H : Hp} {z : Str} (h : z.length ≤ 1000) : Sm p H (.str z) := ⟨.str z, by simp, fun t e => by cases e; exact h⟩
theorem Sm.tup {p a : Addr} {H : Hp} {xs : List V} (h : H a = some (.tup xs)) (n : a ≠ p) : Sm p H (.ref a) := ⟨.tup h, fun z => n (V.ref.inj z), fun _ z => nomatch z⟩
/-- what stands in a row of steps -/
structure Itm (p : Addr) (H : Hp) (v : V) : Prop where
  pl : Pl3 H v
  ne : v ≠ .ref p
  far : ∀ a x y z, v = .ref a → H a = some (.tup [x, y, z]) → x ≠ .ref p ∧ y ≠ .ref p ∧ z ≠ .ref p
theorem Itm.kp {p : Addr} {H H' : Hp} {v : V} (K : Kp p H H') (h : Itm p H v) : Itm p H' v where
  pl := ⟨h.pl.1.kp K h.ne, fun a x y z ev h' => by
    have h0 := pl_was K h.ne h.pl.1 ev h'
    obtain ⟨px, py, pz, t⟩ := h.pl.2 a x y z ev h0
    obtain ⟨nx, ny, nz⟩ := h.far a x y z ev h0
    exact ⟨px.kp K nx, py.kp K ny, pz.kp K nz, t⟩⟩
  ne := h.ne
  far := fun a x y z ev h' => h.far a x y z ev (pl_was K h.ne h.pl.1 ev h')
theorem Itm.ex {p : Addr} {H H' : Hp} {v : V} (e : Ex H H') (hP : Pool H p) (h : Itm p H v) : Itm p H' v := h.kp (Kp.ex e hP)
theorem Itm.sc {p : Addr} {H : Hp} {v : V} (h : Pl H v) (n : ∀ a, v ≠ .ref a) : Itm p H v := ⟨⟨h, fun a _ _ _ e => absurd e (n a)⟩, n p, fun a _ _ _ e => absurd e (n a)⟩
theorem Itm.other {p a : Addr} {H : Hp} {o : HO} (g : Pl H (.ref a)) (h : H a = some o) (n : a ≠ p) (l : ∀ x y z, o ≠ .tup [x, y, z]) : Itm p H (.ref a) :=
  ⟨⟨g, fun b x y z e h' => by cases e; rw [h] at h'; exact absurd (Option.some.inj h') (l x y z)⟩, fun z => n (V.ref.inj z), fun b x y z e h' => by cases e; rw [h] at h'; exact absurd (Option.some.inj h') (l x y z)⟩
theorem Itm.tup {p a : Addr} {H : Hp} {xs : List V} (h : H a = some (.tup xs)) (n : a ≠ p) (l : xs.length ≠ 3) : Itm p H (.ref a) :=
  Itm.other (.tup h) h n fun x y z e => l (by cases e; rfl)
theorem Itm.three {p a : Addr} {H : Hp} {x y z : V} (h : H a = some (.tup [x, y, z])) (n : a ≠ p) (hx : Sm p H x) (hy : Sm p H y) (hz : Sm p H z) : Itm p H (.ref a) :=
  ⟨⟨.tup h, fun b x' y' z' e h' => by cases e; rw [h] at h'; cases h'; exact ⟨hx.pl, hy.pl, hz.pl, hy.sh⟩⟩, fun z => n (V.ref.inj z), fun b x' y' z' e h' => by cases e; rw [h] at h'; cases h'; exact ⟨hx.ne, hy.ne, hz.ne⟩⟩
theorem nm_short {z : Str} (h : IsNm z) : z.length ≤ 1000 := Nat.le_trans h.2.1 (by decide)
/-- a step is one -/
theorem Itm.step {p : Addr} {H : Hp} {v : V} {t : Stp} (hP : Pool H p) (h : StepAt H v t) (g : GoodStep t) : Itm p H v := by
  obtain ⟨a, rfl, ha⟩ := h
  obtain ⟨_, _, _, _, _, _, hp, _⟩ := hP
  exact .three ha (fun z => by rw [z, hp] at ha; cases ha) (.int _) (.str (nm_short g.2.2.1)) (.int _)
theorem step_nm {z : Str} (h : nmB (.str z) = true) : IsNm z := by
  rw [nmB_str] at h
  obtain ⟨h1, h2⟩ := Bool.and_eq_true_iff.mp h
  obtain ⟨h3, h4⟩ := Bool.and_eq_true_iff.mp h2
  have l1 := of_decide_eq_true h1
  have l2 := of_decide_eq_true h3
  refine ⟨by omega, by omega, fun c hc => ?_⟩
  have h5 := List.all_eq_true.mp h4 c hc
  unfold ltB at h5
  obtain ⟨h6, h7⟩ := Bool.and_eq_true_iff.mp h5
  exact ⟨of_decide_eq_true h6, of_decide_eq_true h7⟩
/-- a plain thing is a step or none -/
theorem itAt_of {H : Hp} {v : V} (h : Pl3 H v) : ∃ o, ItAt H v o := by
  cases hb : stpB H v with
  | false => exact ⟨none, h, hb, fun _ z => nomatch z⟩
  | true =>
    have hp := h.1
    cases hp with
    | tup ha =>
      rename_i a xs
      by_cases hl : xs.length = 3
      · match xs, hl with
        | [x, y, z], _ =>
          have e : (isSt x && (nmB y && isSt z)) = true := (stpB_at ha).symm.trans hb
          obtain ⟨e1, e2⟩ := Bool.and_eq_true_iff.mp e
          obtain ⟨e3, e4⟩ := Bool.and_eq_true_iff.mp e2
          match x, y, z, e1, e3, e4 with
          | .int i, .str w, .int j, e1, e3, e4 =>
            obtain ⟨a1, a2⟩ := Bool.and_eq_true_iff.mp (show (decide (0 ≤ i) && decide (i ≤ 99)) = true from e1)
            obtain ⟨b1, b2⟩ := Bool.and_eq_true_iff.mp (show (decide (0 ≤ j) && decide (j ≤ 99)) = true from e4)
            refine ⟨some (i, w, j), h, hb, fun t et => ?_⟩
            cases et
            exact ⟨⟨a, rfl, ha⟩, of_decide_eq_true a1, of_decide_eq_true a2, step_nm e3, of_decide_eq_true b1, of_decide_eq_true b2⟩
      · rw [show stpB H (.ref a) = false from (stpB_at ha).trans (stpO_not hl)] at hb
        cases hb
    | lst ha => rw [show stpB H _ = false from stpB_at ha] at hb; cases hb
    | dct ha => rw [show stpB H _ = false from stpB_at ha] at hb; cases hb
    | _ => cases hb
theorem itAts_of {H : Hp} : ∀ {xs : List V}, (∀ x ∈ xs, Pl3 H x) → ∃ os, Paired (ItAt H) xs os
  | [], _ => ⟨[], .nil⟩
  | x :: xs, h => by
    obtain ⟨o, ho⟩ := itAt_of (h x List.mem_cons_self)
    obtain ⟨os, hos⟩ := itAts_of fun y hy => h y (List.mem_cons_of_mem _ hy)
    exact ⟨o :: os, .cons ho hos⟩
theorem step_of {p : Addr} {H : Hp} {v : V} (h : Itm p H v) (b : stpB H v = true) : ∃ t, StepAt H v t ∧ GoodStep t := by
  obtain ⟨o, ho⟩ := itAt_of h.pl
  cases o with
  | none => exact nomatch (ho.is.symm.trans b)
  | some t => exact ⟨t, ho.at_ t rfl⟩
section
variable {P : Program} {w : World} {K : PySem.W.Frag} {mg : Str → Option Value} {base : Heap} {f : Addr} {fd : FuncData}
theorem drawn_at {α : Type} {xs : List α} {d : Int} (h0 : 0 ≤ d) (h1 : d < (xs.length : Int)) : ∃ x, xs[d.toNat]? = some x ∧ x ∈ xs := by
  obtain ⟨x, hx⟩ : ∃ x, xs[d.toNat]? = some x := ⟨_, List.getElem?_eq_getElem (by omega)⟩
  exact ⟨x, hx, List.mem_of_getElem? hx⟩
abbrev s__law_odd_step : Stmt := top 33
theorem sc__law_odd_step : FnScope ["_law_pool_here", "_law_step", "_law_deep", "_law_k", "_law_state", "_law_word"] ["_law_pool_here", "_law_step"] (defScope s__law_odd_step) := ⟨rfl, rfl, rfl, by decide +kernel, rfl, by decide +kernel, by decide +kernel⟩
def spOdd : Sp := fun vs H Q _ => ∃ (p : Addr) (v : V) (t : Stp), vs = [.ref p, v] ∧ Pool H p ∧ StepAt H v t ∧ GoodStep t ∧ ∀ x H', Kp p H H' → Pool H' p → Itm p H' x → Q x H'
theorem okl_odd (G : Gz mg) (D : Df K mg "_law_odd_step" s__law_odd_step f fd ["_law_pool_here", "_law_step"]) (c__law_draw : Callee P w K mg base CXn 1 "_law_draw" 2 spDraw) (c__law_pick : Callee P w K mg base CXn 2 "_law_pick" 2 spPick) : Callee P w K mg base CXn 3 "_law_odd_step" 2 spOdd := by
  refine D.callee (D.fn.ok sc__law_odd_step (fun vs H Q E h => ?_) (fun cdv A outer s H vs Q E hr h => ⟨_, PSs.nox (pss_cons (ps_set (i := 2) sc__law_odd_step.nd rfl (Or.inl rfl) (pv 1)) (pss_cons (ps_for PassesOwn.never rfl (pi_range1 rfl G.g_range (pa_cons pe_int pa_nil)) (pg_name (i := 3) sc__law_odd_step.nd rfl (Or.inl rfl)) (pss_one (ps_set (i := 2) sc__law_odd_step.nd rfl (Or.inl rfl) (pe_tup (pa_cons (pv 2) pa_nil))))) (pss_cons (ps_set (i := 4) sc__law_odd_step.nd rfl (Or.inl rfl) (pe_ix (ixK (K := K) rfl) (pe_lst (pa_cons (pe_un un_neg pe_int) (pa_cons pe_int (pa_cons pe_bl (pa_cons pe_str (pa_cons pe_non (pa_cons (pe_tup (pa_cons pe_int pa_nil)) (pa_cons (pe_op op_pow pe_int pe_int) pa_nil)))))))) (pe_cl (E := En) c__law_draw (hr.mono (by decide)) rfl passN (pa_cons (pv 0) (pa_cons pe_int pa_nil))) (fun _ _ => rfl))) (pss_cons (ps_set (i := 5) sc__law_odd_step.nd rfl (Or.inl rfl) (pe_ix (ixK (K := K) rfl) (pe_lst (pa_cons pe_str (pa_cons pe_str (pa_cons pe_str (pa_cons pe_int (pa_cons pe_non (pa_cons pe_str (pa_cons pe_str (pa_cons (pe_tup (pa_cons pe_str pa_nil)) pa_nil))))))))) (pe_cl (E := En) c__law_draw (hr.mono (by decide)) rfl passN (pa_cons (pv 0) (pa_cons pe_int pa_nil))) (fun _ _ => rfl))) (pss_one (ps_ret (pe_cl (E := En) c__law_pick (hr.mono (by decide)) rfl passN (pa_cons (pv 0) (pa_cons (pe_lst (pa_cons pe_non (pa_cons pe_int (pa_cons pe_str (pa_cons (pe_tup pa_nil) (pa_cons (pe_slice sl_tupA (pv 1) po_none (po_some pe_int)) (pa_cons (pe_op op_catT (pv 1) (pe_tup (pa_cons pe_int pa_nil))) (pa_cons (pe_callTy (listOfK (K := K) rfl) rfl G.g_list (by rfl) (pa_cons (pv 1) pa_nil)) (pa_cons pe_dnewK (pa_cons (pv 2) (pa_cons (pe_tup (pa_cons (pv 4) (pa_cons (pe_ix (ixK (K := K) rfl) (pv 1) pe_int (fun _ _ => rfl)) (pa_cons (pe_ix (ixK (K := K) rfl) (pv 1) pe_int (fun _ _ => rfl)) pa_nil)))) (pa_cons (pe_tup (pa_cons (pe_ix (ixK (K := K) rfl) (pv 1) pe_int (fun _ _ => rfl)) (pa_cons (pv 5) (pa_cons (pe_ix (ixK (K := K) rfl) (pv 1) pe_int (fun _ _ => rfl)) pa_nil)))) (pa_cons (pe_tup (pa_cons (pe_ix (ixK (K := K) rfl) (pv 1) pe_int (fun _ _ => rfl)) (pa_cons (pe_ix (ixK (K := K) rfl) (pv 1) pe_int (fun _ _ => rfl)) (pa_cons (pv 4) pa_nil)))) (pa_cons (pe_tup (pa_cons (pv 4) (pa_cons (pv 5) (pa_cons (pe_ix (ixK (K := K) rfl) (pv 1) pe_int (fun _ _ => rfl)) pa_nil)))) (pa_cons (pe_tup (pa_cons (pv 5) (pa_cons (pv 4) (pa_cons (pv 4) pa_nil)))) pa_nil))))))))))))))) pa_nil))))))))), ?_⟩))
  · obtain ⟨_, _, _, rfl, _⟩ := h
    rfl
  · obtain ⟨p, v, t, rfl, hP, ⟨sa, rfl, hs⟩, gt, k⟩ := h
    obtain ⟨i, z, j⟩ := t
    have zs := nm_short gt.2.2.1
    have nsp : sa ≠ p := fun z => by
      obtain ⟨_, _, _, _, _, _, hp, _⟩ := hP
      rw [z, hp] at hs
      cases hs
    refine ⟨_, rfl, 90, rfl, by decide, by decide, for_range (fun n σ' H' => (∃ d v3, σ' = [some (.ref p), some (.ref sa), some d, v3, none, none] ∧ Itm p H' d) ∧ Ex H H') ⟨⟨_, none, rfl, Itm.step hP ⟨sa, rfl, hs⟩ gt⟩, Ex.refl _⟩ ?_ ?_⟩
    · rintro n σ' H' hn ⟨⟨d, v3, rfl, hd⟩, e⟩
      refine ⟨_, rfl, (by show 1 ≤ sizeLine; decide), fun T hT => ⟨⟨_, _, rfl, ?_⟩, e.trans (Ex.new hT)⟩⟩
      exact Itm.tup upd_same (fun z => (hP.ex e).here (z ▸ hT)) (by simp)
    · rintro σ' H1 ⟨⟨d, v3, rfl, hd⟩, e1⟩
      have P1 := hP.ex e1
      have hs1 := e1 _ _ hs
      have K1 : Kp p H H1 := Kp.ex e1 hP
      -- the state
      refine ⟨1, rfl, (by show 1 ≤ sizeLine; decide), fun T1 hT1 => ⟨10, 30, rfl, rfl, ⟨by decide, by decide, by decide⟩, (by show 7 ≤ sizeLine; decide), fun l1 hl1 => ?_⟩⟩
      have nT1 : T1 ≠ p := fun z => P1.here (z ▸ hT1)
      have e2 : Ex H1 (upd H1 T1 (.tup [.int 1])) := Ex.new hT1
      have t1 : upd H1 T1 (.tup [.int 1]) T1 = some (.tup [.int 1]) := upd_same
      generalize upd H1 T1 (.tup [.int 1]) = H2 at hl1 e2 t1
      have P2 := P1.ex e2
      have nl1 : l1 ≠ p := fun z => P2.here (z ▸ hl1)
      refine ⟨_, rfl, p, 7, rfl, P2.ex (Ex.new hl1), by decide, by decide, fun d1 H3 d10 d11 K3' P3 => ?_⟩
      have K3 : Kp p H2 H3 := (Kp.ex (Ex.new hl1) P2).trans K3'
      have hl3 := K3'.k l1 _ nl1 upd_same
      obtain ⟨s1, hs1a, hs1m⟩ := drawn_at d10 (show d1 < (([V.int (-1), .int 100, .bl true, .str "0", .non, .ref T1, .int (10 ^ 30)] : List V).length : Int) from d11)
      have sm1 : Sm p H3 s1 := by
        have q : ∀ x ∈ ([V.int (-1), .int 100, .bl true, .str "0", .non, .ref T1, .int (10 ^ 30)] : List V), Sm p H2 x := by
          simp only [List.forall_mem_cons]
          exact ⟨.int _, .int _, .bl _, .str (by decide +kernel), .non, .tup t1 nT1, .int _, fun _ z => nomatch z⟩
        exact (q s1 hs1m).kp K3
      refine .inl ⟨l1, _, d1, s1, rfl, rfl, sq_of hl3, at_of (j := d1.toNat) (by omega) hs1a, ?_⟩
      have K03 : Kp p H H3 := K1.trans ((Kp.ex e2 P1).trans K3)
      -- the word
      refine ⟨(by show 1 ≤ sizeLine; decide), fun T2 hT2 => ⟨(by show 8 ≤ sizeLine; decide), fun l2 hl2 => ?_⟩⟩
      have nT2 : T2 ≠ p := fun z => P3.here (z ▸ hT2)
      have e4 : Ex H3 (upd H3 T2 (.tup [.str "a"])) := Ex.new hT2
      have t2 : upd H3 T2 (.tup [.str "a"]) T2 = some (.tup [.str "a"]) := upd_same
      generalize upd H3 T2 (.tup [.str "a"]) = H4 at hl2 e4 t2
      have P4 := P3.ex e4
      have nl2 : l2 ≠ p := fun z => P4.here (z ▸ hl2)
      refine ⟨_, rfl, p, 8, rfl, P4.ex (Ex.new hl2), by decide, by decide, fun d2 H5 d20 d21 K5' P5 => ?_⟩
      have K5 : Kp p H4 H5 := (Kp.ex (Ex.new hl2) P4).trans K5'
      have hl5 := K5'.k l2 _ nl2 upd_same
      obtain ⟨s2, hs2a, hs2m⟩ := drawn_at d20 (show d2 < (([V.str "", .str "A", .str "abcdefghijk", .int 5, .non, .str "a b", .str "a1", .ref T2] : List V).length : Int) from d21)
      have K35 : Kp p H3 H5 := (Kp.ex e4 P3).trans K5
      have sm2 : Sm p H5 s2 := by
        have q : ∀ x ∈ ([V.str "", .str "A", .str "abcdefghijk", .int 5, .non, .str "a b", .str "a1", .ref T2] : List V), Sm p H4 x := by
          simp only [List.forall_mem_cons]
          exact ⟨.str (by decide +kernel), .str (by decide +kernel), .str (by decide +kernel), .int _, .non, .str (by decide +kernel), .str (by decide +kernel), .tup t2 nT2, fun _ z => nomatch z⟩
        exact (q s2 hs2m).kp K5
      refine .inl ⟨l2, _, d2, s2, rfl, rfl, sq_of hl5, at_of (j := d2.toNat) (by omega) hs2a, ?_⟩
      replace sm1 := sm1.kp K35
      have K05 := K03.trans K35
      have hs5 := K05.k sa _ nsp hs
      replace hd : Itm p H5 d := hd.kp ((Kp.ex e2 P1).trans (K3.trans K35))
      clear K1 K3 K3' K5 K5' K03 K35 e1 e2 e4 P1 P2 P3 P4 hl3 hl5 hs1 t1 t2
      -- the odd things
      have step : ∀ {A B : Hp} {T : Addr} {o : HO}, Ex H5 A → A T = none → B = upd A T o → Ex H5 B ∧ B T = some o ∧ Ex A B ∧ T ≠ p := fun {A B T o} e n eb => by
        subst eb
        exact ⟨e.trans (Ex.new n), upd_same, Ex.new n, fun z => (P5.ex e).here (z ▸ n)⟩
      refine ⟨_, rfl, Nat.zero_le _, fun A1 n1 => ?_⟩
      obtain ⟨B, eB⟩ : ∃ B, upd H5 A1 (.tup []) = B := ⟨_, rfl⟩
      obtain ⟨E1, h1, x1, m1⟩ := step (Ex.refl _) n1 eB.symm
      rw [eB]
      clear eB n1
      -- step[:2]
      refine ⟨_, rfl, 2, rfl, sa, _, rfl, st_of (E1 _ _ hs5), fun zz => absurd zz (by show ¬(HT.sIx 3 0 none = 0 ∧ HT.sIx 3 3 (some 2) = 3); decide +kernel), fun _ A2 n2 => ?_⟩
      obtain ⟨B2, eB⟩ : ∃ B2, upd B A2 (.tup (cutV [.int i, .str z, .int j] none (some 2))) = B2 := ⟨_, rfl⟩
      obtain ⟨E2, h2, x2, m2⟩ := step E1 n2 eB.symm
      rw [eB]
      clear eB n2
      -- step + (0,)
      refine ⟨_, rfl, (by show 1 ≤ sizeLine; decide), fun A3 n3 => ?_⟩
      obtain ⟨B3, eB⟩ : ∃ B3, upd B2 A3 (.tup [.int 0]) = B3 := ⟨_, rfl⟩
      obtain ⟨E3, h3, x3, m3⟩ := step E2 n3 eB.symm
      rw [eB]
      clear eB n3
      refine ⟨sa, A3, _, _, rfl, rfl, st_of (E3 _ _ hs5), st_of h3, (by simp), (by show 4 ≤ sizeLine; decide), fun zz => absurd zz (by simp), fun _ A4 n4 => ?_⟩
      obtain ⟨B4, eB⟩ : ∃ B4, upd B3 A4 (.tup ([.int i, .str z, .int j] ++ [.int 0])) = B4 := ⟨_, rfl⟩
      obtain ⟨E4, h4, x4, m4⟩ := step E3 n4 eB.symm
      rw [eB]
      clear eB n4
      -- list(step)
      refine ⟨.ref sa, rfl, ?_⟩
      dsimp only [tNil]
      refine listof_go (K := K) (.inr (E4 _ _ hs5)) fun A5 B5 x5 n5 h5 => ?_
      have E5 := E4.trans x5
      have m5 : A5 ≠ p := fun z => (P5.ex E4).here (z ▸ n5)
      -- {}
      intro A6 n6
      obtain ⟨B6, eB⟩ : ∃ B6, upd B5 A6 (.dK []) = B6 := ⟨_, rfl⟩
      obtain ⟨E6, h6, x6, m6⟩ := step E5 n6 eB.symm
      rw [eB]
      clear eB n6
      -- deep, the tuples of three
      refine ⟨_, rfl, _, rfl, _, rfl, .inr (.inl ⟨sa, _, 1, _, rfl, rfl, st_of (E6 _ _ hs5), (by rfl), _, rfl, .inr (.inl ⟨sa, _, 2, _, rfl, rfl, st_of (E6 _ _ hs5), (by rfl), (by show 3 ≤ sizeLine; decide), fun A7 n7 => ?_⟩)⟩)⟩
      obtain ⟨B7, eB⟩ : ∃ B7, upd B6 A7 (.tup [s1, .str z, .int j]) = B7 := ⟨_, rfl⟩
      obtain ⟨E7, h7, x7, m7⟩ := step E6 n7 eB.symm
      rw [eB]
      clear eB n7
      refine ⟨_, rfl, .inr (.inl ⟨sa, _, 0, _, rfl, rfl, st_of (E7 _ _ hs5), (by rfl), _, rfl, _, rfl, .inr (.inl ⟨sa, _, 2, _, rfl, rfl, st_of (E7 _ _ hs5), (by rfl), (by show 3 ≤ sizeLine; decide), fun A8 n8 => ?_⟩)⟩)⟩
      obtain ⟨B8, eB⟩ : ∃ B8, upd B7 A8 (.tup [.int i, s2, .int j]) = B8 := ⟨_, rfl⟩
      obtain ⟨E8, h8, x8, m8⟩ := step E7 n8 eB.symm
      rw [eB]
      clear eB n8
      refine ⟨_, rfl, .inr (.inl ⟨sa, _, 0, _, rfl, rfl, st_of (E8 _ _ hs5), (by rfl), _, rfl, .inr (.inl ⟨sa, _, 1, _, rfl, rfl, st_of (E8 _ _ hs5), (by rfl), _, rfl, (by show 3 ≤ sizeLine; decide), fun A9 n9 => ?_⟩)⟩)⟩
      obtain ⟨B9, eB⟩ : ∃ B9, upd B8 A9 (.tup [.int i, .str z, s1]) = B9 := ⟨_, rfl⟩
      obtain ⟨E9, h9, x9, m9⟩ := step E8 n9 eB.symm
      rw [eB]
      clear eB n9
      refine ⟨_, rfl, _, rfl, _, rfl, .inr (.inl ⟨sa, _, 2, _, rfl, rfl, st_of (E9 _ _ hs5), (by rfl), (by show 3 ≤ sizeLine; decide), fun AA nA => ?_⟩)⟩
      obtain ⟨BA, eB⟩ : ∃ BA, upd B9 AA (.tup [s1, s2, .int j]) = BA := ⟨_, rfl⟩
      obtain ⟨EA, hA, xA, mA⟩ := step E9 nA eB.symm
      rw [eB]
      clear eB nA
      refine ⟨_, rfl, _, rfl, _, rfl, (by show 3 ≤ sizeLine; decide), fun AB nB => ?_⟩
      obtain ⟨BB, eB⟩ : ∃ BB, upd BA AB (.tup [s2, s1, s1]) = BB := ⟨_, rfl⟩
      obtain ⟨EB, hB, xB, mB⟩ := step EA nB eB.symm
      rw [eB]
      clear eB nB
      refine ⟨(by show 14 ≤ sizeLine; decide), fun L nL => ?_⟩
      have PB := P5.ex EB
      have nLp : L ≠ p := fun z => PB.here (z ▸ nL)
      have sB1 := sm1.ex EB
      have sB2 := sm2.ex EB
      have dB := hd.ex EB P5
      have c1 := (x2.trans (x3.trans (x4.trans (x5.trans (x6.trans (x7.trans (x8.trans (x9.trans (xA.trans xB))))))))) _ _ h1
      have c2 := (x3.trans (x4.trans (x5.trans (x6.trans (x7.trans (x8.trans (x9.trans (xA.trans xB)))))))) _ _ h2
      have c4 := (x5.trans (x6.trans (x7.trans (x8.trans (x9.trans (xA.trans xB)))))) _ _ h4
      have c5 := (x6.trans (x7.trans (x8.trans (x9.trans (xA.trans xB))))) _ _ h5
      have c6 := (x7.trans (x8.trans (x9.trans (xA.trans xB)))) _ _ h6
      have c7 := (x8.trans (x9.trans (xA.trans xB))) _ _ h7
      have c8 := (x9.trans (xA.trans xB)) _ _ h8
      have c9 := (xA.trans xB) _ _ h9
      have cA := xB _ _ hA
      refine ⟨p, L, _, rfl, PB.ex (Ex.new nL), nLp, .inl upd_same, (List.cons_ne_nil _ _), (by show 14 ≤ 1000; decide), fun x H' hx K' P' => ?_⟩
      have KB : Kp p BB H' := (Kp.ex (Ex.new nL) PB).trans K'
      refine k x H' (K05.trans ((Kp.ex EB P5).trans KB)) P' (Itm.kp KB ?_)
      clear K' P' KB PB
      revert x
      simp only [List.forall_mem_cons]
      refine ⟨.sc .non (fun _ z => nomatch z), .sc (.int _) (fun _ z => nomatch z), .sc (.str _) (fun _ z => nomatch z), .tup c1 m1 (by simp), .tup c2 m2 ?_, .tup c4 m4 (by simp), .other (.lst c5) c5 m5 (fun _ _ _ z => nomatch z), .other (.dct c6) c6 m6 (fun _ _ _ z => nomatch z), dB,
        .three c7 m7 sB1 (.str zs) (.int _), .three c8 m8 (.int _) sB2 (.int _), .three c9 m9 (.int _) (.str zs) sB1, .three cA mA sB1 sB2 (.int _), .three hB mB sB2 sB1 sB1, fun _ z => nomatch z⟩
      have ec : cutV [V.int i, .str z, .int j] none (some 2) = [.int i, .str z] := cut_take [V.int i, .str z, .int j] 2
      rw [ec]
      simp
end
end WK

set_option Elab.async false
set_option linter.all false
set_option maxRecDepth 100000
set_option maxHeartbeats 4000000
namespace WK
open PySem PySem.Spec PyProof.Rows L2 WW Evl
/-- what the law takes for a start -/
inductive Stt (p : Addr) (H : Hp) : V → Prop
  | int (i : Int) : Stt p H (.int i)
  | bl (b : Bool) : Stt p H (.bl b)
  | str : Stt p H (.str "0")
  | non : Stt p H .non
  | tup {a : Addr} (n : a ≠ p) (h : H a = some (.tup [.int 0])) : Stt p H (.ref a)
  | lst {a : Addr} (n : a ≠ p) (h : H a = some (.lst [.int 0])) : Stt p H (.ref a)
theorem Stt.kp {p : Addr} {H H' : Hp} {v : V} (K : Kp p H H') (h : Stt p H v) : Stt p H' v := by
  cases h with
  | int i => exact .int i
  | bl b => exact .bl b
  | str => exact .str
  | non => exact .non
  | tup n h => exact .tup n (K.k _ _ n h)
  | lst n h => exact .lst n (K.k _ _ n h)
theorem Stt.pl {p : Addr} {H : Hp} {v : V} (h : Stt p H v) : Pl H v := by
  cases h with
  | int i => exact .int i
  | bl b => exact .bl b
  | str => exact .str _
  | non => exact .non
  | tup n h => exact .tup h
  | lst n h => exact .lst h
/-- what the law takes for the steps, with at most n of them -/
structure Srow (p : Addr) (H : Hp) (n : Nat) (v : V) : Prop where
  ne : v ≠ .ref p
  pl : Pl H v
  it : ∀ a xs, v = .ref a → SqX H a xs → xs.length ≤ n ∧ ∀ x ∈ xs, Itm p H x
/-- there is a step in it, if it is a list with anything -/
def HasS (H : Hp) (v : V) : Prop := ∀ a xs, v = .ref a → H a = some (.lst xs) → xs ≠ [] → ∃ x ∈ xs, stpB H x = true
theorem Srow.kp {p : Addr} {H H' : Hp} {n : Nat} {v : V} (K : Kp p H H') (h : Srow p H n v) : Srow p H' n v :=
  ⟨h.ne, h.pl.kp K h.ne, fun a xs e hx => by
    obtain ⟨h1, h2⟩ := h.it a xs e (hx.imp (pl_was K h.ne h.pl e) (pl_was K h.ne h.pl e))
    exact ⟨h1, fun x m => (h2 x m).kp K⟩⟩
theorem HasS.kp {p : Addr} {H H' : Hp} {n : Nat} {v : V} (K : Kp p H H') (h : Srow p H n v) (q : HasS H v) : HasS H' v := fun a xs e hx ne => by
  have h0 := pl_was K h.ne h.pl e hx
  obtain ⟨x, m, b⟩ := q a xs e h0 ne
  have i := (h.it a xs e (.inl h0)).2 x m
  exact ⟨x, m, (stpB_kp K i.ne i.pl.1).trans b⟩
theorem Srow.sc {p : Addr} {H : Hp} {n : Nat} {v : V} (h : Pl H v) (q : ∀ a, v ≠ .ref a) : Srow p H n v ∧ HasS H v := ⟨⟨q p, h, fun a _ e => absurd e (q a)⟩, fun a _ e => absurd e (q a)⟩
theorem Srow.row {p a : Addr} {H : Hp} {n : Nat} {xs : List V} (na : a ≠ p) (h : SqX H a xs) (l : xs.length ≤ n) (i : ∀ x ∈ xs, Itm p H x) : Srow p H n (.ref a) :=
  ⟨fun z => na (V.ref.inj z), h.elim .lst .tup, fun b ys e hy => by
    cases e
    have : ys = xs := by
      rcases h with h | h <;> rcases hy with hy | hy <;> rw [h] at hy <;> cases hy <;> rfl
    subst this
    exact ⟨l, i⟩⟩
theorem HasS.row {a : Addr} {H : Hp} {xs : List V} (h : H a = some (.lst xs)) (q : xs ≠ [] → ∃ x ∈ xs, stpB H x = true) : HasS H (.ref a) := fun b ys e hy ne => by
  cases e
  rw [h] at hy
  cases hy
  exact q ne
theorem HasS.no {a : Addr} {H : Hp} {o : HO} (h : H a = some o) (q : ∀ xs, o ≠ .lst xs) : HasS H (.ref a) := fun b ys e hy ne => by
  cases e
  rw [h] at hy
  exact absurd (Option.some.inj hy) (q ys)
theorem Srow.dct {p a : Addr} {H : Hp} {n : Nat} {kvs : List (Key × V)} (na : a ≠ p) (h : H a = some (.dK kvs)) : Srow p H n (.ref a) ∧ HasS H (.ref a) :=
  ⟨⟨fun z => na (V.ref.inj z), .dct h, fun b ys e hy => by cases e; rcases hy with hy | hy <;> rw [h] at hy <;> cases hy⟩, .no h fun _ z => nomatch z⟩
theorem ins_mem {α : Type} {xs ms : List α} {n : Nat} {x : α} (h : x ∈ xs) : x ∈ xs.take n ++ ms ++ xs.drop n := by
  rw [List.append_assoc, List.mem_append, List.mem_append]
  rw [← List.take_append_drop n xs, List.mem_append] at h
  exact h.imp id .inr
theorem ins_all {α : Type} {Pr : α → Prop} {xs ms : List α} {n : Nat} (h : ∀ x ∈ xs, Pr x) (hm : ∀ x ∈ ms, Pr x) : ∀ x ∈ xs.take n ++ ms ++ xs.drop n, Pr x := fun x hx => by
  rw [List.append_assoc, List.mem_append, List.mem_append] at hx
  rcases hx with hx | hx | hx
  · exact h x (List.mem_of_mem_take hx)
  · exact hm x hx
  · exact h x (List.mem_of_mem_drop hx)
theorem ins_len {α : Type} {xs ms : List α} {n : Nat} : (xs.take n ++ ms ++ xs.drop n).length = xs.length + ms.length := by
  rw [List.length_append, List.length_append, List.length_take, List.length_drop]
  omega
theorem rep_mem {α : Type} {xs : List α} {n m : Nat} {x : α} (h : x ∈ ((List.replicate n xs).flatten).take m) : x ∈ xs := by
  obtain ⟨l, hl, hx⟩ := List.mem_flatten.mp (List.mem_of_mem_take h)
  rw [(List.mem_replicate.mp hl).2] at hx
  exact hx
section
variable {P : Program} {w : World} {K : PySem.W.Frag} {mg : Str → Option Value} {base : Heap} {f : Addr} {fd : FuncData}
abbrev s__law_spoilt : Stmt := top 34
theorem sc__law_spoilt : FnScope ["_law_pool_here", "_law_start", "_law_steps", "_law_kind", "_law_at", "_law_old", "_law_step", "_law_more", "_law_k"] ["_law_pool_here", "_law_start", "_law_steps"] (defScope s__law_spoilt) := ⟨rfl, rfl, rfl, by decide +kernel, rfl, by decide +kernel, by decide +kernel⟩
def spSpoilt : Sp := fun vs H Q _ => ∃ (p a : Addr) (v : V) (xs : List V) (n : Nat), vs = [.ref p, v, .ref a] ∧ Pool H p ∧ Stt p H v ∧ a ≠ p ∧ H a = some (.lst xs) ∧ xs.length ≤ n ∧ 21 ≤ n + 3 ∧ n ≤ 100 ∧ (∀ x ∈ xs, Itm p H x) ∧ (∃ x ∈ xs, stpB H x = true) ∧
  ∀ T v' r H', Kp p H H' → Pool H' p → H' T = some (.tup [v', r]) → Stt p H' v' → Srow p H' (n + 3) r → ((∀ x ∈ xs, stpB H x = true) → HasS H' r) → Q (.ref T) H'
theorem okl_spoilt (G : Gz mg) (D : Df K mg "_law_spoilt" s__law_spoilt f fd ["_law_pool_here", "_law_start", "_law_steps"]) (c__law_draw : Callee P w K mg base CXn 1 "_law_draw" 2 spDraw) (c__law_pick : Callee P w K mg base CXn 2 "_law_pick" 2 spPick) (c__law_is_step : Callee P w K mg base CXn 3 "_law_is_step" 1 spIsStepG)
    (c__law_odd_step : Callee P w K mg base CXn 3 "_law_odd_step" 2 spOdd) : Callee P w K mg base CXn 4 "_law_spoilt" 3 spSpoilt := by
  refine D.callee (D.fn.ok sc__law_spoilt (fun vs H Q E h => ?_) (fun cdv A outer s H vs Q E hr h => ⟨_, PSs.nox (pss_cons (ps_set (i := 3) sc__law_spoilt.nd rfl (Or.inl rfl) (pe_cl (E := En) c__law_draw (hr.mono (by decide)) rfl passN (pa_cons (pv 0) (pa_cons pe_int pa_nil)))) (pss_cons (ps_set (i := 4) sc__law_spoilt.nd rfl (Or.inl rfl) (pe_cl (E := En) c__law_draw (hr.mono (by decide)) rfl passN (pa_cons (pv 0) (pa_cons (pe_op op_add (pe_callB (lenK (K := K) rfl) rfl G.g_len PySem.boot_len (pa_cons (pv 2) pa_nil)) pe_int) pa_nil)))) (pss_cons (ps_set (i := 5) sc__law_spoilt.nd rfl (Or.inr rfl) (pe_cl (E := En) c__law_pick (hr.mono (by decide)) rfl passN (pa_cons (pv 0) (pa_cons (pe_lc (own := [("_law_step", 6)]) rfl sc__law_spoilt.nd (pi_list (pv 2)) (BlkOk.mk (N := ["_law_pool_here", "_law_start", "_law_steps", "_law_kind", "_law_at", "_law_old", "_law_step", "_law_more", "_law_k"]) (sc := defScope s__law_spoilt) rfl (by decide +kernel) (by decide +kernel) (by decide +kernel) (by decide +kernel)) (fun _ _ _ _ _ => (pg_name (i := 6) sc__law_spoilt.nd rfl (Or.inl rfl))) (fun _ _ _ _ _ => (pts_one (pt_val (pe_cl (E := En) c__law_is_step (hr.mono (by decide)) rfl passN (pa_cons (pv 6) pa_nil))))) (fun _ _ _ _ _ => (pv 6))) pa_nil)))) (pss_cons (ps_if (pt_cmpR op_eq (pv 3) pe_int (nomark _)) (pss_one (ps_ret (pe_tup (pa_cons (pe_cl (E := En) c__law_pick (hr.mono (by decide)) rfl passN (pa_cons (pv 0) (pa_cons (pe_lst (pa_cons (pe_un un_neg pe_int) (pa_cons pe_int (pa_cons pe_bl (pa_cons pe_bl (pa_cons pe_str (pa_cons pe_non (pa_cons (pe_tup (pa_cons pe_int pa_nil)) (pa_cons (pe_lst (pa_cons pe_int pa_nil)) (pa_cons (pe_op op_pow pe_int pe_int) pa_nil)))))))))) pa_nil))) (pa_cons (pv 2) pa_nil))))) pss_nil) (pss_cons (ps_if (pt_cmpR op_eq (pv 3) pe_int (nomark _)) (pss_one (ps_ret (pe_tup (pa_cons (pv 1) (pa_cons (pe_cl (E := En) c__law_pick (hr.mono (by decide)) rfl passN (pa_cons (pv 0) (pa_cons (pe_lst (pa_cons (pe_lst pa_nil) (pa_cons (pe_tup pa_nil) (pa_cons pe_non (pa_cons pe_int (pa_cons pe_str (pa_cons pe_dnewK (pa_cons (pe_disp (pps_cons pe_int (pv 5) pps_nil) rfl rfl (List.cons_ne_nil _ _) (by decide)) (pa_cons (pe_slice sl_list (pe_op op_rep (pv 2) pe_int) po_none (po_some pe_int)) pa_nil))))))))) pa_nil))) pa_nil))))) pss_nil) (pss_cons (ps_if (pt_cmpR op_eq (pv 3) pe_int (nomark _)) (pss_one (ps_ret (pe_tup (pa_cons (pv 1) (pa_cons (pe_op op_cat (pe_op op_cat (pe_slice sl_list (pv 2) po_none (po_some (pv 4))) (pe_lst (pa_cons (pv 5) pa_nil))) (pe_slice sl_list (pv 2) (po_some (pv 4)) po_none)) pa_nil))))) pss_nil) (pss_cons (ps_if (pt_cmpR op_eq (pv 3) pe_int (nomark _)) (pss_cons (ps_setLc (i := 7) (y := "_law_more") (own := [("_law_k", 8)]) rfl sc__law_spoilt.nd rfl rfl rfl (pi_range1 rfl G.g_range (pa_cons pe_int pa_nil)) (BlkOk.mk (N := ["_law_pool_here", "_law_start", "_law_steps", "_law_kind", "_law_at", "_law_old", "_law_step", "_law_more", "_law_k"]) (sc := defScope s__law_spoilt) rfl (by decide +kernel) (by decide +kernel) (by decide +kernel) (by decide +kernel)) (fun _ _ _ _ _ => (pg_name (i := 8) sc__law_spoilt.nd rfl (Or.inl rfl))) (fun _ _ _ _ _ => pts_nil) (fun _ _ _ _ _ => (pe_tup (pa_cons (pe_ix (ixK (K := K) rfl) (pv 5) pe_int (fun _ _ => rfl)) (pa_cons (pe_ix (ixK (K := K) rfl) (pv 5) pe_int (fun _ _ => rfl)) (pa_cons (pe_op op_add pe_int (pv 8)) pa_nil)))))) (pss_one (ps_ret (pe_tup (pa_cons (pv 1) (pa_cons (pe_op op_cat (pe_op op_cat (pe_slice sl_list (pv 2) po_none (po_some (pv 4))) (pv 7)) (pe_slice sl_list (pv 2) (po_some (pv 4)) po_none)) pa_nil)))))) pss_nil) (pss_cons (ps_if (pt_cmpR op_lt (pv 3) pe_int (nomark _)) (pss_one (ps_ret (pe_tup (pa_cons (pv 1) (pa_cons (pe_op op_cat (pe_op op_cat (pe_slice sl_list (pv 2) po_none (po_some (pv 4))) (pe_lst (pa_cons (pe_cl (E := En) c__law_odd_step (hr.mono (by decide)) rfl passN (pa_cons (pv 0) (pa_cons (pv 5) pa_nil))) pa_nil))) (pe_slice sl_list (pv 2) (po_some (pv 4)) po_none)) pa_nil))))) pss_nil) (pss_one (ps_ret (pe_tup (pa_cons (pv 1) (pa_cons (pv 2) pa_nil))))))))))))), ?_⟩))
  · obtain ⟨_, _, _, _, _, rfl, _⟩ := h
    rfl
  · obtain ⟨p, a, v, xs, n, rfl, hP, sv, nap, hx, hl, h21, h100, hit, hex, k⟩ := h
    have xpos : 0 < xs.length := by
      obtain ⟨x, m, _⟩ := hex
      exact List.length_pos_of_mem m
    refine ⟨_, rfl, p, 8, rfl, hP, by decide, by decide, fun kd H1 k0 k1 K1 P1 => ?_⟩
    have hx1 := K1.k a _ nap hx
    refine ⟨_, rfl, _, rfl, .ref a, xs.length, rfl, .inl ⟨_, sq_of hx1, rfl⟩, _, 1, rfl, rfl, p, _, rfl, P1, by omega, by omega, fun ad H2 a0 a1 K2 P2 => ?_⟩
    have K02 := K1.trans K2
    have hx2 := K02.k a _ nap hx
    have hit2 : ∀ x ∈ xs, Itm p H2 x := fun x m => (hit x m).kp K02
    have hst2 : ∀ x ∈ xs, stpB H2 x = stpB H x := fun x m => stpB_kp K02 (hit x m).ne (hit x m).pl.1
    obtain ⟨at', rfl⟩ := Int.eq_ofNat_of_zero_le a0
    -- an old one
    refine ⟨_, rfl, _, rfl, a, rfl, ⟨_, sq_of hx2⟩, fun D hD => ?_⟩
    have nDp : D ≠ p := fun z => P2.here (z ▸ hD)
    refine lc_ev (f := stpB H2) (v := fun x => x) (st_l (sq_of hx2)) (by omega) (fun x => rfl) hD (fun x mx H3 e Q q => ?_) (fun x mx _ H3 e Q q => ⟨_, rfl, q H3 (Ex.refl _)⟩) (fun H3 e3 hd3 => ?_)
    · refine ⟨_, rfl, x, rfl, (hit2 x mx).pl.ex e, fun H4 e4 => ⟨_, rfl, ?_⟩⟩
      rw [stpB_ex e (hit2 x mx).pl.1]
      exact q H4 e4
    refine ⟨p, D, _, rfl, P2.ex e3, nDp, .inl hd3, ?_, ?_, fun old H4 ho K4' P4 => ?_⟩
    · obtain ⟨x, m, b⟩ := hex
      refine List.ne_nil_of_mem (a := x) ?_
      rw [List.map_id']
      exact List.mem_filter.mpr ⟨m, (hst2 x m).trans b⟩
    · rw [List.length_map]
      have := List.length_filter_le (stpB H2) xs
      omega
    rw [List.map_id'] at ho
    obtain ⟨mo, bo⟩ := List.mem_filter.mp ho
    have K24 : Kp p H2 H4 := (Kp.ex e3 P2).trans K4'
    have K04 := K02.trans K24
    obtain ⟨t, hst0, gt⟩ := step_of (hit2 old mo) bo
    have hst : StepAt H4 old t := hst0.tu (K24.tu P2)
    clear hst0 ho mo bo hd3 e3 K4' nDp hD
    have hx4 := K04.k a _ nap hx
    have sv4 := sv.kp K04
    have hit4 : ∀ x ∈ xs, Itm p H4 x := fun x m => (hit x m).kp K04
    have hs4 : ∀ x ∈ xs, stpB H4 x = stpB H x := fun x m => stpB_kp K04 (hit x m).ne (hit x m).pl.1
    have iold : Itm p H4 old := Itm.step P4 hst gt
    have fin : ∀ {B : Hp} {T : Addr} {v' r : V}, Kp p H4 B → Pool B p → B T = none → Stt p B v' → Srow p B (n + 3) r → ((∀ x ∈ xs, stpB H x = true) → HasS B r) → Q (.ref T) (upd B T (.tup [v', r])) := fun {B T v' r} KB PB hT h1 h2 h3 => by
      have kx : Kp p B (upd B T (.tup [v', r])) := Kp.ex (Ex.new hT) PB
      exact k T v' r _ (K04.trans (KB.trans kx)) (PB.ex (Ex.new hT)) upd_same (h1.kp kx) (h2.kp kx) fun z => (h3 z).kp kx h2
    have same : ∀ {B : Hp}, Kp p H4 B → Srow p B (n + 3) (.ref a) ∧ HasS B (.ref a) := fun {B} KB => by
      have hb := KB.k a _ nap hx4
      refine ⟨.row nap (.inl hb) (by omega) fun x m => (hit4 x m).kp KB, .row hb fun _ => ?_⟩
      obtain ⟨x, m, b⟩ := hex
      exact ⟨x, m, (stpB_kp KB (hit4 x m).ne (hit4 x m).pl.1).trans ((hs4 x m).trans b)⟩
    have step : ∀ {A B : Hp} {T : Addr} {o : HO}, Ex H4 A → A T = none → B = upd A T o → Ex H4 B ∧ B T = some o ∧ Ex A B ∧ T ≠ p := fun {A B T o} e n eb => by
      subst eb
      exact ⟨e.trans (Ex.new n), upd_same, Ex.new n, fun z => (P4.ex e).here (z ▸ n)⟩
    -- the start
    refine ⟨_, rfl, rfl, _, rfl, ite2 (fun _ => ?_) (fun _ => ?_)⟩
    · refine ⟨_, rfl, 1, rfl, (by show 1 ≤ sizeLine; decide), fun A1 n1 => ?_⟩
      obtain ⟨B1, eB⟩ : ∃ B1, upd H4 A1 (.tup [.int 0]) = B1 := ⟨_, rfl⟩
      obtain ⟨E1, h1, x1, m1⟩ := step (Ex.refl _) n1 eB.symm
      rw [eB]
      clear eB n1
      refine ⟨(by show 1 ≤ sizeLine; decide), fun A2 n2 => ?_⟩
      obtain ⟨B2, eB⟩ : ∃ B2, upd B1 A2 (.lst [.int 0]) = B2 := ⟨_, rfl⟩
      obtain ⟨E2, h2, x2, m2⟩ := step E1 n2 eB.symm
      rw [eB]
      clear eB n2
      refine ⟨10, 20, rfl, rfl, ⟨by decide, by decide, by decide⟩, (by show 9 ≤ sizeLine; decide), fun L nL => ?_⟩
      have PB := P4.ex E2
      have nLp : L ≠ p := fun z => PB.here (z ▸ nL)
      refine ⟨p, L, _, rfl, PB.ex (Ex.new nL), nLp, .inl upd_same, (List.cons_ne_nil _ _), (by show 9 ≤ 1000; decide), fun x H' hx' K' P' => ?_⟩
      have KB : Kp p B2 H' := (Kp.ex (Ex.new nL) PB).trans K'
      have K4B : Kp p H4 H' := (Kp.ex E2 P4).trans KB
      refine ⟨_, rfl, (by show 2 ≤ sizeLine; decide), fun T hT => fin K4B P' hT (Stt.kp KB ?_) (same K4B).1 fun _ => (same K4B).2⟩
      have h12 := x2 _ _ h1
      clear K' P' KB PB K4B hT T
      revert x
      simp only [List.forall_mem_cons]
      exact ⟨.int _, .int _, .bl _, .bl _, .str, .non, .tup m1 h12, .lst m2 h2, .int _, fun _ z => nomatch z⟩
    -- the row
    refine ⟨_, rfl, rfl, _, rfl, ite2 (fun _ => ?_) (fun _ => ?_)⟩
    · refine ⟨_, rfl, _, rfl, Nat.zero_le _, fun A1 n1 => ?_⟩
      obtain ⟨B1, eB⟩ : ∃ B1, upd H4 A1 (.lst []) = B1 := ⟨_, rfl⟩
      obtain ⟨E1, h1, x1, m1⟩ := step (Ex.refl _) n1 eB.symm
      rw [eB]
      clear eB n1
      refine ⟨Nat.zero_le _, fun A2 n2 => ?_⟩
      obtain ⟨B2, eB⟩ : ∃ B2, upd B1 A2 (.tup []) = B2 := ⟨_, rfl⟩
      obtain ⟨E2, h2, x2, m2⟩ := step E1 n2 eB.symm
      rw [eB]
      clear eB n2
      intro A3 n3
      obtain ⟨B3, eB⟩ : ∃ B3, upd B2 A3 (.dK []) = B3 := ⟨_, rfl⟩
      obtain ⟨E3, h3, x3, m3⟩ := step E2 n3 eB.symm
      rw [eB]
      clear eB n3
      refine fun A4 n4 => ⟨_, rfl, upd_same, [(.inl 0, old)], rfl, (by show 1 ≤ 15; decide), ?_⟩
      rw [upd_upd]
      obtain ⟨B4, eB⟩ : ∃ B4, upd B3 A4 (.dK (mergeK [] [(.inl 0, old)])) = B4 := ⟨_, rfl⟩
      obtain ⟨E4, h4, x4, m4⟩ := step E3 n4 eB.symm
      rw [eB]
      clear eB n4
      refine ⟨_, rfl, a, 21, xs, rfl, rfl, E4 _ _ hx4, by decide, by decide, sz_of (by show xs.length * 21 ≤ 100000; omega), fun A5 n5 => ?_⟩
      obtain ⟨B5, eB⟩ : ∃ B5, upd B4 A5 (.lst (List.replicate (Int.toNat 21) xs).flatten) = B5 := ⟨_, rfl⟩
      obtain ⟨E5, h5, x5, m5⟩ := step E4 n5 eB.symm
      rw [eB]
      clear eB n5
      refine ⟨21, rfl, sl_take (n := 21) h5 fun A6 n6 => ?_⟩
      obtain ⟨B6, eB⟩ : ∃ B6, upd B5 A6 (.lst ((List.replicate (Int.toNat 21) xs).flatten.take 21)) = B6 := ⟨_, rfl⟩
      obtain ⟨E6, h6, x6, m6⟩ := step E5 n6 eB.symm
      rw [eB]
      clear eB n6
      refine ⟨(by show 8 ≤ sizeLine; decide), fun L nL => ?_⟩
      have PB := P4.ex E6
      have nLp : L ≠ p := fun z => PB.here (z ▸ nL)
      refine ⟨p, L, _, rfl, PB.ex (Ex.new nL), nLp, .inl upd_same, (List.cons_ne_nil _ _), (by show 8 ≤ 1000; decide), fun x H' hx' K' P' => ?_⟩
      have KB : Kp p B6 H' := (Kp.ex (Ex.new nL) PB).trans K'
      have K4B : Kp p H4 H' := (Kp.ex E6 P4).trans KB
      have K46 : Kp p H4 B6 := Kp.ex E6 P4
      have c1 := (x2.trans (x3.trans (x4.trans (x5.trans x6)))) _ _ h1
      have c2 := (x3.trans (x4.trans (x5.trans x6))) _ _ h2
      have c3 := (x4.trans (x5.trans x6)) _ _ h3
      have c4 := (x5.trans x6) _ _ h4
      have good : Srow p B6 (n + 3) x ∧ ((∀ y ∈ xs, stpB H y = true) → HasS B6 x) := by
        clear K' P' KB PB K4B
        revert x
        simp only [List.forall_mem_cons]
        refine ⟨⟨.row m1 (.inl c1) (Nat.zero_le _) (fun _ z => nomatch z), fun _ => .row c1 fun z => absurd rfl z⟩, ⟨.row m2 (.inr c2) (Nat.zero_le _) (fun _ z => nomatch z), fun _ => .no c2 fun _ z => nomatch z⟩, ⟨(Srow.sc .non fun _ z => nomatch z).1, fun _ => (Srow.sc (p := p) (n := n) .non fun _ z => nomatch z).2⟩,
          ⟨(Srow.sc (.int _) fun _ z => nomatch z).1, fun _ => (Srow.sc (p := p) (n := n) (.int _) fun _ z => nomatch z).2⟩, ⟨(Srow.sc (.str _) fun _ z => nomatch z).1, fun _ => (Srow.sc (p := p) (n := n) (.str _) fun _ z => nomatch z).2⟩, ⟨(Srow.dct m3 c3).1, fun _ => (Srow.dct (n := n) m3 c3).2⟩, ⟨(Srow.dct m4 c4).1, fun _ => (Srow.dct (n := n) m4 c4).2⟩,
          ⟨.row m6 (.inl h6) (by rw [List.length_take]; omega) (fun y m => (hit4 y (rep_mem m)).kp K46), fun al => .row h6 fun ne => ?_⟩, fun _ z => nomatch z⟩
        obtain ⟨y, m⟩ := List.exists_mem_of_ne_nil _ ne
        have m0 := rep_mem m
        exact ⟨y, m, (stpB_kp K46 (hit4 y m0).ne (hit4 y m0).pl.1).trans ((hs4 y m0).trans (al y m0))⟩
      exact ⟨(by show 2 ≤ sizeLine; decide), fun T hT => fin K4B P' hT (sv4.kp K4B) (good.1.kp KB) fun al => (good.2 al).kp KB good.1⟩
    -- something put in
    have put : ∀ {B : Hp} {T l : Addr} {ms : List V}, Kp p H4 B → Pool B p → B T = none → B l = some (.lst (xs.take at' ++ ms ++ xs.drop at')) → l ≠ p → ms.length ≤ 3 → (∀ x ∈ ms, Itm p B x) → Q (.ref T) (upd B T (.tup [v, .ref l])) := fun {B T l ms} KB PB hT hb nl l3 hm => by
      refine fin KB PB hT (sv4.kp KB) (.row nl (.inl hb) (by rw [ins_len]; omega) (ins_all (fun x m => (hit4 x m).kp KB) hm)) fun _ => .row hb fun _ => ?_
      obtain ⟨x, m, b⟩ := hex
      exact ⟨x, ins_mem m, (stpB_kp KB (hit4 x m).ne (hit4 x m).pl.1).trans ((hs4 x m).trans b)⟩
    refine ⟨_, rfl, rfl, _, rfl, ite2 (fun _ => ?_) (fun _ => ?_)⟩
    · refine ⟨_, rfl, _, rfl, _, rfl, _, rfl, sl_take hx4 fun A1 n1 => ?_⟩
      obtain ⟨B1, eB⟩ : ∃ B1, upd H4 A1 (.lst (xs.take at')) = B1 := ⟨_, rfl⟩
      obtain ⟨E1, h1, x1, m1⟩ := step (Ex.refl _) n1 eB.symm
      rw [eB]
      clear eB n1
      refine ⟨_, rfl, (by show 1 ≤ sizeLine; decide), fun A2 n2 => ?_⟩
      obtain ⟨B2, eB⟩ : ∃ B2, upd B1 A2 (.lst [old]) = B2 := ⟨_, rfl⟩
      obtain ⟨E2, h2, x2, m2⟩ := step E1 n2 eB.symm
      rw [eB]
      clear eB n2
      refine ⟨A1, A2, _, _, rfl, rfl, x2 _ _ h1, h2, sz_of (by rw [List.length_take]; show _ + 1 ≤ 100000; omega), fun A3 n3 => ?_⟩
      obtain ⟨B3, eB⟩ : ∃ B3, upd B2 A3 (.lst (xs.take at' ++ [old])) = B3 := ⟨_, rfl⟩
      obtain ⟨E3, h3, x3, m3⟩ := step E2 n3 eB.symm
      rw [eB]
      clear eB n3
      refine ⟨_, rfl, _, rfl, _, rfl, ⟨a, xs, rfl, sq_of (E3 _ _ hx4), fun A4 n4 => ?_⟩⟩
      rw [cut_drop]
      obtain ⟨B4, eB⟩ : ∃ B4, upd B3 A4 (.lst (xs.drop at')) = B4 := ⟨_, rfl⟩
      obtain ⟨E4, h4, x4, m4⟩ := step E3 n4 eB.symm
      rw [eB]
      clear eB n4
      refine ⟨A3, A4, _, _, rfl, rfl, x4 _ _ h3, h4, sz_of (by rw [← List.length_append, ins_len]; show _ + 1 ≤ 100000; omega), fun A5 n5 => ?_⟩
      obtain ⟨B5, eB⟩ : ∃ B5, upd B4 A5 (.lst (xs.take at' ++ [old] ++ xs.drop at')) = B5 := ⟨_, rfl⟩
      obtain ⟨E5, h5, x5, m5⟩ := step E4 n5 eB.symm
      rw [eB]
      clear eB n5
      refine ⟨(by show 2 ≤ sizeLine; decide), fun T hT => put (Kp.ex E5 P4) (P4.ex E5) hT h5 m5 (by show 1 ≤ 3; decide) fun x hx' => ?_⟩
      rw [List.mem_singleton.mp hx']
      exact iold.ex E5 P4
    refine ⟨_, rfl, rfl, _, rfl, ite2 (fun _ => ?_) (fun _ => ?_)⟩
    · obtain ⟨b, rfl, hb⟩ := hst
      refine ⟨3, rfl, by decide, by decide, fun M nM => ?_⟩
      have nMp : M ≠ p := fun z => P4.here (z ▸ nM)
      refine lc_range (fun i H' => ∃ ms : List V, ms.length = i ∧ H' M = some (.lst ms) ∧ (∀ m ∈ ms, ∃ u, StepAt H' m u ∧ GoodStep u) ∧ Ex H4 H') ⟨[], rfl, upd_same, (fun _ z => nomatch z), Ex.new nM⟩ ?_ ?_
      · rintro i H' hi ⟨ms, hl', hM, hms, e⟩
        refine ⟨rfl, _, rfl, .inr (.inl ⟨b, _, 0, _, rfl, rfl, st_of (e _ _ hb), (by rfl), _, rfl, .inr (.inl ⟨b, _, 1, _, rfl, rfl, st_of (e _ _ hb), (by rfl), _, rfl, 91, _, rfl, rfl, (by show 3 ≤ sizeLine; decide), fun q nq => ?_⟩)⟩)⟩
        have eq' : Ex H' (upd H' q (.tup [.int t.1, .str t.2.1, .int (91 + (0 + (i : Int)))])) := Ex.new nq
        refine ⟨ms, eq' _ _ hM, sz_lt (by omega), ms ++ [.ref q], by rw [List.length_append, hl']; rfl, upd_same, fun m hm => ?_, (e.trans eq').mut nM⟩
        have tu : Tu (upd H' q (.tup [.int t.1, .str t.2.1, .int (91 + (0 + (i : Int)))])) (upd (upd H' q (.tup [.int t.1, .str t.2.1, .int (91 + (0 + (i : Int)))])) M (.lst (ms ++ [.ref q]))) := Tu.lst (eq' _ _ hM)
        rcases List.mem_append.mp hm with hm | hm
        · obtain ⟨u, hu, gu⟩ := hms m hm
          exact ⟨u, (hu.tu (Tu.ex eq')).tu tu, gu⟩
        · rw [List.mem_singleton.mp hm]
          exact ⟨(t.1, t.2.1, 91 + (0 + (i : Int))), StepAt.tu tu ⟨q, rfl, upd_same⟩, gt.1, gt.2.1, gt.2.2.1, by show 0 ≤ 91 + (0 + (i : Int)); omega, by show 91 + (0 + (i : Int)) ≤ 99; omega⟩
      rintro H5 ⟨ms, hml, hM, hms, e5⟩
      have P5 := P4.ex e5
      have hm5 : ∀ m ∈ ms, Itm p H5 m := fun m hm => by
        obtain ⟨u, hu, gu⟩ := hms m hm
        exact Itm.step P5 hu gu
      refine ⟨_, rfl, _, rfl, _, rfl, _, rfl, sl_take (e5 _ _ hx4) fun A1 n1 => ?_⟩
      obtain ⟨B1, eB⟩ : ∃ B1, upd H5 A1 (.lst (xs.take at')) = B1 := ⟨_, rfl⟩
      obtain ⟨E1, h1, x1, m1⟩ := step e5 n1 eB.symm
      rw [eB]
      clear eB n1
      have ml3 : ms.length ≤ 3 := by rw [hml]; decide
      refine ⟨_, rfl, A1, M, _, _, rfl, rfl, h1, x1 _ _ hM, sz_of (by rw [List.length_take]; omega), fun A3 n3 => ?_⟩
      obtain ⟨B3, eB⟩ : ∃ B3, upd B1 A3 (.lst (xs.take at' ++ ms)) = B3 := ⟨_, rfl⟩
      obtain ⟨E3, h3, x3, m3⟩ := step E1 n3 eB.symm
      rw [eB]
      clear eB n3
      refine ⟨_, rfl, _, rfl, _, rfl, ⟨a, xs, rfl, sq_of (E3 _ _ hx4), fun A4 n4 => ?_⟩⟩
      rw [cut_drop]
      obtain ⟨B4, eB⟩ : ∃ B4, upd B3 A4 (.lst (xs.drop at')) = B4 := ⟨_, rfl⟩
      obtain ⟨E4, h4, x4, m4⟩ := step E3 n4 eB.symm
      rw [eB]
      clear eB n4
      refine ⟨A3, A4, _, _, rfl, rfl, x4 _ _ h3, h4, sz_of (by rw [← List.length_append, ins_len]; omega), fun A5 n5 => ?_⟩
      obtain ⟨B5, eB⟩ : ∃ B5, upd B4 A5 (.lst (xs.take at' ++ ms ++ xs.drop at')) = B5 := ⟨_, rfl⟩
      obtain ⟨E5, h5, x5, m5⟩ := step E4 n5 eB.symm
      rw [eB]
      clear eB n5
      exact ⟨(by show 2 ≤ sizeLine; decide), fun T hT => put (Kp.ex E5 P4) (P4.ex E5) hT h5 m5 ml3 fun x hx' => (hm5 x hx').ex (x1.trans (x3.trans (x4.trans x5))) P5⟩
    refine ⟨_, rfl, _, 7, rfl, rfl, _, rfl, ite2 (fun _ => ?_) (fun _ => ?_)⟩
    · refine ⟨_, rfl, _, rfl, _, rfl, _, rfl, sl_take hx4 fun A1 n1 => ?_⟩
      obtain ⟨B1, eB⟩ : ∃ B1, upd H4 A1 (.lst (xs.take at')) = B1 := ⟨_, rfl⟩
      obtain ⟨E1, h1, x1, m1⟩ := step (Ex.refl _) n1 eB.symm
      rw [eB]
      clear eB n1
      have PB1 := P4.ex E1
      refine ⟨_, rfl, _, rfl, p, old, t, rfl, PB1, hst.tu (Tu.ex E1), gt, fun od H5 K5 P5 io => ⟨(by show 1 ≤ sizeLine; decide), fun A2 n2 => ?_⟩⟩
      have K15 : Kp p H4 H5 := (Kp.ex E1 P4).trans K5
      have h15 := K5.k A1 _ m1 h1
      have nA2 : A2 ≠ p := fun z => P5.here (z ▸ n2)
      have e2 : Ex H5 (upd H5 A2 (.lst [od])) := Ex.new n2
      have h2 : upd H5 A2 (.lst [od]) A2 = some (.lst [od]) := upd_same
      generalize upd H5 A2 (.lst [od]) = B2 at e2 h2
      have PB2 := P5.ex e2
      refine ⟨A1, A2, _, _, rfl, rfl, e2 _ _ h15, h2, sz_of (by rw [List.length_take]; show _ + 1 ≤ 100000; omega), fun A3 n3 => ?_⟩
      have nA3 : A3 ≠ p := fun z => PB2.here (z ▸ n3)
      have e3 : Ex B2 (upd B2 A3 (.lst (xs.take at' ++ [od]))) := Ex.new n3
      have h3 : upd B2 A3 (.lst (xs.take at' ++ [od])) A3 = some (.lst (xs.take at' ++ [od])) := upd_same
      generalize upd B2 A3 (.lst (xs.take at' ++ [od])) = B3 at e3 h3
      have PB3 := PB2.ex e3
      have hx5 := (e2.trans e3) _ _ (K15.k a _ nap hx4)
      refine ⟨_, rfl, _, rfl, _, rfl, ⟨a, xs, rfl, sq_of hx5, fun A4 n4 => ?_⟩⟩
      rw [cut_drop]
      have e4 : Ex B3 (upd B3 A4 (.lst (xs.drop at'))) := Ex.new n4
      have h4 : upd B3 A4 (.lst (xs.drop at')) A4 = some (.lst (xs.drop at')) := upd_same
      generalize upd B3 A4 (.lst (xs.drop at')) = B4 at e4 h4
      have PB4 := PB3.ex e4
      refine ⟨A3, A4, _, _, rfl, rfl, e4 _ _ h3, h4, sz_of (by rw [← List.length_append, ins_len]; show _ + 1 ≤ 100000; omega), fun A5 n5 => ?_⟩
      have nA5 : A5 ≠ p := fun z => PB4.here (z ▸ n5)
      have e5 : Ex B4 (upd B4 A5 (.lst (xs.take at' ++ [od] ++ xs.drop at'))) := Ex.new n5
      have h5 : upd B4 A5 (.lst (xs.take at' ++ [od] ++ xs.drop at')) A5 = some (.lst (xs.take at' ++ [od] ++ xs.drop at')) := upd_same
      generalize upd B4 A5 (.lst (xs.take at' ++ [od] ++ xs.drop at')) = B5 at e5 h5
      have e55 := e2.trans (e3.trans (e4.trans e5))
      refine ⟨(by show 2 ≤ sizeLine; decide), fun T hT => put (K15.trans (Kp.ex e55 P5)) (P5.ex e55) hT h5 nA5 (by show 1 ≤ 3; decide) fun x hx' => ?_⟩
      rw [List.mem_singleton.mp hx']
      exact io.ex e55 P5
    exact ⟨_, rfl, _, rfl, (by show 2 ≤ sizeLine; decide), fun T hT => fin (Kp.refl p H4) P4 hT sv4 (same (Kp.refl p H4)).1 fun _ => (same (Kp.refl p H4)).2⟩
end
end WK

set_option Elab.async false
set_option linter.all false
set_option maxRecDepth 100000
set_option maxHeartbeats 8000000
namespace WK
open PySem PySem.Spec PyProof.Rows L2 WW Evl
theorem HandAt.ex {C : Addr} {H H' : Hp} {p : Addr} {st : Int} {ts : List Stp} (e : Ex H H') (h : HandAt C H p st ts) : HandAt C H' p st ts := by
  obtain ⟨dx, tp, wl, ol, xs, ys, h1, h2, h3, ⟨ks, nd, hm, h4⟩, h5, h6⟩ := h
  exact ⟨dx, tp, wl, ol, xs, ys, e _ _ h1, e _ _ h2, h3.ex e, ⟨ks, nd, hm, e _ _ h4⟩, e _ _ h5, h6.ex e⟩
theorem HandAt.ins {C : Addr} {H : Hp} {p : Addr} {st : Int} {ts : List Stp} (h : HandAt C H p st ts) : ∃ dx fs, H p = some (.ins C dx fs) := by
  obtain ⟨dx, tp, wl, ol, xs, ys, h1, _⟩ := h
  exact ⟨dx, _, h1⟩
/-- a list that was there before changes -/
theorem HandAtN.put {C : Addr} {H0 H : Hp} {p l : Addr} {st : Int} {ts : List Stp} {zs : List V} {o : HO} (h : HandAtN C H0 H p st ts) (h0 : H0 l ≠ none) (hl : H l = some (.lst zs)) : HandAtN C H0 (upd H l o) p st ts := by
  obtain ⟨dx, tp, wl, ol, xs, ys, h1, h2, h3, ⟨ks, nd, hm, h4⟩, h5, h6, h7, h8⟩ := h
  have tu : Tu H (upd H l o) := Tu.lst hl
  refine ⟨dx, tp, wl, ol, xs, ys, ?_, tu _ _ h2, h3.tu tu, ⟨ks, nd, hm, ?_⟩, ?_, h6.tu tu, h7, h8⟩
  · rw [upd_ne (fun z => by rw [z, hl] at h1; cases h1)]; exact h1
  · rw [upd_ne (fun z => h0 (by rw [← z]; exact h7))]; exact h4
  · rw [upd_ne (fun z => h0 (by rw [← z]; exact h8))]; exact h5
theorem stp_true {H : Hp} {v : V} {u : Stp} (h : StepAt H v u) (g : GoodStep u) : stpB H v = true := by
  obtain ⟨c, rfl, hc⟩ := h
  rw [stpB_at hc]
  show (isSt (.int u.1) && (nmB (.str u.2.1) && isSt (.int u.2.2))) = true
  obtain ⟨g1, g2, ⟨g3, g4, g5⟩, g6, g7⟩ := g
  have a1 : isSt (.int u.1) = true := by show (decide (0 ≤ u.1) && decide (u.1 ≤ 99)) = true; rw [decide_eq_true g1, decide_eq_true g2]; rfl
  have a2 : isSt (.int u.2.2) = true := by show (decide (0 ≤ u.2.2) && decide (u.2.2 ≤ 99)) = true; rw [decide_eq_true g6, decide_eq_true g7]; rfl
  have a3 : nmB (.str u.2.1) = true := by
    rw [nmB_str, decide_eq_true (show (1 : Int) ≤ (u.2.1.length : Int) by omega), decide_eq_true (show (u.2.1.length : Int) ≤ 10 by omega)]
    show (u.2.1.cps.toList.all fun c => ltB c) = true
    rw [List.all_eq_true]
    intro c hc
    obtain ⟨q1, q2⟩ := g5 c hc
    unfold ltB
    rw [decide_eq_true q1, decide_eq_true q2]
    rfl
  rw [a1, a2, a3]
  rfl
theorem itAt_step {H : Hp} {v : V} {u : Stp} (h : StepAt H v u) (g : GoodStep u) : ItAt H v (some u) := by
  refine ⟨?_, stp_true h g, fun t e => by cases e; exact ⟨h, g⟩⟩
  obtain ⟨a, rfl, ha⟩ := h
  refine ⟨.tup ha, fun b x y z e h' => ?_⟩
  cases e
  rw [ha] at h'
  cases h'
  exact ⟨.int _, .str _, .int _, fun t e => by cases e; exact nm_short g.2.2.1⟩
theorem str_dps {K : PySem.W.Frag} {H : Hp} : ∀ ks : List Str, DpAll K H (ks.map V.str) (ks.map PyData.str)
  | [] => .nil
  | k :: ks => .cons (.str k) (str_dps ks)
theorem str_lay : ∀ ks : List Str, (∀ k ∈ ks, PyData.strOk k = true) → PyData.canLayAll0 (ks.map PyData.str) = true
  | [], _ => by simp [PyData.canLayAll0]
  | k :: ks, h => by
    have h1 := h k List.mem_cons_self
    have h2 := str_lay ks fun y hy => h y (List.mem_cons_of_mem _ hy)
    simp only [List.map_cons, PyData.canLayAll0, PyData.canLay0]
    rw [h1, h2]
    rfl
theorem str_depth : ∀ ks : List Str, PyData.depthAll (ks.map PyData.str) ≤ 1
  | [] => by simp [PyData.depthAll]
  | k :: ks => by
    have h1 := str_depth ks
    simp only [List.map_cons, PyData.depthAll, PyData.depth]
    omega
theorem str_shaped {ks : List Str} (h : ∀ k ∈ ks, PyData.strOk k = true) : SeqAt.shaped (.list (ks.map PyData.str)) = true := by
  have h1 := str_depth ks
  have h2 : PyData.depth (.list (ks.map PyData.str)) ≤ 64 := by
    simp only [PyData.depth]
    omega
  show (PyData.canLay0 (.list (ks.map PyData.str)) && decide (PyData.depth (.list (ks.map PyData.str)) ≤ 64)) = true
  rw [Bool.and_eq_true]
  exact ⟨by simp only [PyData.canLay0]; exact str_lay ks h, decide_eq_true h2⟩
theorem str_eqv : ∀ ks : List Str, PyData.eqvAll (ks.map PyData.str) (ks.map PyData.str) = true
  | [] => by simp [PyData.eqvAll]
  | k :: ks => by
    simp only [List.map_cons, PyData.eqvAll, PyData.eqv]
    rw [str_eqv ks]
    simp
theorem strs_eqv (ks : List Str) : PyData.eqv (.list (ks.map PyData.str)) (.list (ks.map PyData.str)) = true := by
  simp only [PyData.eqv]
  exact str_eqv ks
theorem somes_inj : ∀ {a b : List Stp}, a.map some = b.map some → a = b
  | [], [], _ => rfl
  | x :: a, y :: b, h => by
    rw [List.map_cons, List.map_cons] at h
    injection h with h1 h2
    rw [Option.some.inj h1, somes_inj h2]
/-- a row of steps that is let -/
structure Let (H : Hp) (a : Addr) (xs : List V) (ts : List Stp) : Prop where
  x : SqX H a xs
  l1 : 1 ≤ xs.length
  l20 : xs.length ≤ 20
  w : Paired (ItAt H) xs (ts.map some)
  fb : fb [] 0 (ts.map some) = none
theorem Let.ex {H H' : Hp} {a : Addr} {xs : List V} {ts : List Stp} (e : Ex H H') (h : Let H a xs ts) : Let H' a xs ts := ⟨h.x.ex e, h.l1, h.l20, Paired.mapP h.w fun _ _ q => q.ex e, h.fb⟩
theorem Let.other {H : Hp} {a b : Addr} {xs : List V} {ts : List Stp} (h : Let H a xs ts) (hb : SqX H b xs) : Let H b xs ts := ⟨hb, h.l1, h.l20, h.w, h.fb⟩
theorem Let.rw_ {H : Hp} {a : Addr} {xs : List V} {ts : List Stp} (h : Let H a xs ts) : Rw H xs ts := rw_of h.w
theorem good_of {H : Hp} : ∀ {xs : List V} {ts : List Stp}, Paired (ItAt H) xs (ts.map some) → ∀ t ∈ ts, GoodStep t
  | [], [], _, _, z => nomatch z
  | _ :: _, _ :: _, .cons g r, t, m => by
    rcases List.mem_cons.mp m with rfl | m
    · exact (g.at_ _ rfl).2
    · exact good_of r t m
theorem Let.good {H : Hp} {a : Addr} {xs : List V} {ts : List Stp} (h : Let H a xs ts) : ∀ t ∈ ts, GoodStep t := good_of h.w
theorem Let.put {H : Hp} {a l : Addr} {xs zs : List V} {ts : List Stp} {o : HO} (h : Let H a xs ts) (n : a ≠ l) (hl : H l = some (.lst zs)) : Let (upd H l o) a xs ts := by
  refine ⟨h.x.imp (fun z => by rw [upd_ne n]; exact z) (fun z => by rw [upd_ne n]; exact z), h.l1, h.l20, ?_, h.fb⟩
  have r := h.rw_.tu (Tu.lst (o := o) hl)
  have g := h.good
  clear h
  induction r with
  | nil => exact .nil
  | cons q _ ih => exact .cons (itAt_step q (g _ List.mem_cons_self)) (ih fun t m => g t (List.mem_cons_of_mem _ m))
theorem Let.row {H : Hp} {a : Addr} {xs : List V} {ts : List Stp} (h : Let H a xs ts) : rowB H (.ref a) 1 20 = true := by
  have h1 := h.l1
  have h2 := h.l20
  rw [sqx_row h.x, decide_eq_true (show (1 : Int) ≤ (xs.length : Int) by omega), decide_eq_true (show (xs.length : Int) ≤ 20 by omega)]
  rfl
theorem initG_go {C CS CB o m a : Addr} {H : Hp} {st : Int} {xs : List V} {ts : List Stp} {Q : VK} {E : XK} (ho : H o = none) (hm : H m = none) (hne : m ≠ o) (hst : isSt (.int st) = true) (h : Let H a xs ts) (k : ∀ H', Ex H H' → HandAtN C H H' o st ts → Q .non H') :
    spInitG C CS CB [.ref o, .int st, .ref a] (upd (upd H m (.own o)) o (.ins C m [])) Q E := by
  refine ⟨H, o, m, .int st, .ref a, rfl, (Ex.new hm).trans (Ex.new (by rw [upd_ne hne.symm]; exact ho)), ho, upd_same, .int st, h.x.elim .lst .tup, fun z => ?_, fun _ z => ?_, fun _ _ => ⟨a, xs, ts.map some, rfl, h.x, h.l20, h.w, fun i z => ?_, fun _ st' ts' e1 e2 H' e hh => ?_⟩⟩
  · rw [hst] at z; cases z
  · rw [h.row] at z; cases z
  · rw [h.fb] at z; cases z
  · cases e1
    rw [← somes_inj e2] at hh
    exact k H' e hh
/-- what is due, and told -/
structure Due (H : Hp) (v1 v2 : V) (nm : Str) (x : V) : Prop where
  due : ∀ (H1 : Hp) (Q : VK) (E : XK), Ex H H1 → (∀ H' T, Ex H1 H' → H' T = some (.tup [.str nm, x]) → Q (.ref T) H') → spDue [v1, v2] H1 Q E
  told : ∀ (H1 : Hp) (Q : VK) (E : XK), Ex H H1 → (∀ H' T, Ex H1 H' → H' T = some (.tup [.str nm, x, .bl true]) → Q (.ref T) H') → spTold [v1, v2] H1 Q E
theorem due_go {K : PySem.W.Frag} {p : Addr} {H : Hp} {n : Nat} {v1 v2 : V} (hs : Stt p H v1) (hr : Srow p H n v2) : ∃ nm x, Due H v1 v2 nm x ∧ (∀ H', Ex H H' → ∃ d, Dp K H' x d ∧ d.canLay0 = true ∧ d.depth ≤ 5) ∧ PyData.strOk nm = true ∧
    (nm ≠ "hand" ∨ nm = "hand" ∧ ∃ st a xs ts, v1 = .int st ∧ isSt (.int st) = true ∧ v2 = .ref a ∧ Let H a xs ts) := by
  have p1 := hs.pl
  have p2 := hr.pl
  cases hst : isSt v1 with
  | false =>
    refine ⟨"start", v1, ⟨fun H1 Q E e k => ⟨v1, v2, rfl, p1.ex e, p2.ex e, fun _ H' T e' hT => k H' T e' hT, fun z => ?_, fun z => ?_⟩, fun H1 Q E e k => ⟨v1, v2, rfl, p1.ex e, p2.ex e, fun _ H' T e' hT => k H' T e' hT, fun z => ?_, fun z => ?_⟩⟩, fun H' e => ?_, by decide +kernel, .inl (by decide +kernel)⟩
    · rw [hst] at z; cases z
    · rw [hst] at z; cases z
    · rw [hst] at z; cases z
    · rw [hst] at z; cases z
    · cases hs with
      | int i => exact ⟨_, .int i, rfl, by simp [PyData.depth]⟩
      | bl b => exact ⟨_, .bl b, rfl, by simp [PyData.depth]⟩
      | str => exact ⟨_, .str _, by decide +kernel, by simp [PyData.depth]⟩
      | non => exact ⟨_, .non, rfl, by simp [PyData.depth]⟩
      | tup na h => exact ⟨_, .tup (st_of (e _ _ h)) (.cons (.int 0) .nil), rfl, by simp [PyData.depth, PyData.depthAll]⟩
      | lst na h => exact ⟨_, .lst (sq_of (e _ _ h)) (.cons (.int 0) .nil), rfl, by simp [PyData.depth, PyData.depthAll]⟩
  | true =>
  have intd : ∀ (i : Int) (H' : Hp), ∃ d, Dp K H' (.int i) d ∧ d.canLay0 = true ∧ d.depth ≤ 5 := fun i H' => ⟨_, .int i, rfl, by simp [PyData.depth]⟩
  cases hrow : rowB H v2 1 20 with
  | false =>
    refine ⟨"steps", .int (-1), ⟨fun H1 Q E e k => ⟨v1, v2, rfl, p1.ex e, p2.ex e, fun z => ?_, fun _ _ H' T e' hT => k H' T e' hT, fun _ z => ?_⟩, fun H1 Q E e k => ⟨v1, v2, rfl, p1.ex e, p2.ex e, fun z => ?_, fun _ _ H' T e' hT => k H' T e' hT, fun _ z => ?_⟩⟩, fun H' _ => intd _ H', by decide +kernel, .inl (by decide +kernel)⟩
    · rw [hst] at z; cases z
    · rw [rowB_ex e p2, hrow] at z; cases z
    · rw [hst] at z; cases z
    · rw [rowB_ex e p2, hrow] at z; cases z
  | true =>
  rcases pl_lst p2 with ⟨_, z⟩ | ⟨_, a, xs, rfl, hx⟩
  · rw [z] at hrow; cases hrow
  have hrow2 := hrow
  rw [sqx_row hx] at hrow2
  obtain ⟨l1, l2⟩ := Bool.and_eq_true_iff.mp hrow2
  have l1 := of_decide_eq_true l1
  have l2 := of_decide_eq_true l2
  obtain ⟨_, hit⟩ := hr.it a xs rfl hx
  obtain ⟨os, hos⟩ := itAts_of fun x m => (hit x m).pl
  cases hfb : fb [] 0 os with
  | some i =>
    refine ⟨"steps", .int i, ⟨fun H1 Q E e k => ⟨v1, .ref a, rfl, p1.ex e, p2.ex e, fun z => ?_, fun _ z => ?_, fun _ _ => ⟨a, xs, os, rfl, hx.ex e, by omega, Paired.mapP hos fun _ _ q => q.ex e, fun j z H' T e' hT => ?_, fun z => ?_⟩⟩, fun H1 Q E e k => ⟨v1, .ref a, rfl, p1.ex e, p2.ex e, fun z => ?_, fun _ z => ?_, fun _ _ => ⟨a, xs, os, rfl, hx.ex e, by omega, Paired.mapP hos fun _ _ q => q.ex e, fun j z H' T e' hT => ?_, fun z => ?_⟩⟩⟩, fun H' _ => intd _ H', by decide +kernel, .inl (by decide +kernel)⟩
    · rw [hst] at z; cases z
    · rw [rowB_ex e p2, hrow] at z; cases z
    · rw [hfb] at z; cases z; exact k H' T e' hT
    · rw [hfb] at z; cases z
    · rw [hst] at z; cases z
    · rw [rowB_ex e p2, hrow] at z; cases z
    · rw [hfb] at z; cases z; exact k H' T e' hT
    · rw [hfb] at z; cases z
  | none =>
    refine ⟨"hand", .int 0, ⟨fun H1 Q E e k => ⟨v1, .ref a, rfl, p1.ex e, p2.ex e, fun z => ?_, fun _ z => ?_, fun _ _ => ⟨a, xs, os, rfl, hx.ex e, by omega, Paired.mapP hos fun _ _ q => q.ex e, fun j z => ?_, fun _ H' T e' hT => k H' T e' hT⟩⟩, fun H1 Q E e k => ⟨v1, .ref a, rfl, p1.ex e, p2.ex e, fun z => ?_, fun _ z => ?_, fun _ _ => ⟨a, xs, os, rfl, hx.ex e, by omega, Paired.mapP hos fun _ _ q => q.ex e, fun j z => ?_, fun _ H' T e' hT => k H' T e' hT⟩⟩⟩, fun H' _ => intd _ H', by decide +kernel, .inr ⟨rfl, ?_⟩⟩
    · rw [hst] at z; cases z
    · rw [rowB_ex e p2, hrow] at z; cases z
    · rw [hfb] at z; cases z
    · rw [hst] at z; cases z
    · rw [rowB_ex e p2, hrow] at z; cases z
    · rw [hfb] at z; cases z
    · obtain ⟨ts, rfl⟩ := fb_some hfb
      obtain ⟨st, rfl⟩ : ∃ st, v1 = .int st := by
        cases v1 with
        | int i => exact ⟨i, rfl⟩
        | _ => exact nomatch (show false = true from hst)
      exact ⟨st, a, xs, ts, rfl, hst, rfl, hx, by omega, by omega, hos, hfb⟩
section
variable {P : Program} {w : World} {K : PySem.W.Frag} {mg : Str → Option Value} {base : Heap} {f : Addr} {fd : FuncData}
/-- sorted(set(a list of texts)) -/
theorem words_go {H : Hp} {D : Addr} {zs : List Str} {Q : VK} (hd : H D = some (.lst (zs.map V.str))) (hl : zs.length + 1 < scanBound) (q : ∀ W ks H', Ex H H' → ks.Nodup → (∀ x, x ∈ ks ↔ x ∈ zs) → H' W = some (.lst ((sortS ks).map V.str)) → Q (.ref W) H') :
    rSetOfS K P w [.ref D] H fun v H1 => rSortSS P w [v] H1 Q :=
  ⟨D, zs, rfl, sq_of hd, hl, fun A ks hA nd hm => ⟨A, ks, rfl, upd_same, fun W hW => q W ks _ ((Ex.new hA).trans (Ex.new hW)) nd hm upd_same⟩⟩
/-- the class's maker and askers -/
structure Ops (P : Program) (w : World) (K : PySem.W.Frag) (mg : Str → Option Value) (base : Heap) (C CS CB : Addr) : Prop where
  mkh : ∃ f fd, Mk K C f ∧ FnOk P w K mg base (L2.CX P w) 5 f fd ["self", "start", "steps"] (spInitG C CS CB) ∧ Binds K fd ["self", "start", "steps"] []
  words : ∃ p g fd, PropOf K C "words" p g ∧ FnOk P w K mg base CXn 1 g fd ["self"] (spWords C) ∧ Binds K fd ["self"] []
  steps : ∃ p g fd, PropOf K C "steps" p g ∧ FnOk P w K mg base CXn 1 g fd ["self"] (spSteps C) ∧ Binds K fd ["self"] []
  start : ∃ p g fd, PropOf K C "start" p g ∧ FnOk P w K mg base CXn 1 g fd ["self"] (spStart C) ∧ Binds K fd ["self"] []
abbrev s_law : Stmt := top 35
theorem sc_law : FnScope ["_law_script", "_law_pool_here", "_law_times", "_law_start", "_law_steps", "_law_k", "_law_due_here", "_law_passed", "_law_hand", "_law_words", "_law_step"] ["_law_script"] (defScope s_law) := ⟨rfl, rfl, rfl, by decide +kernel, rfl, by decide +kernel, by decide +kernel⟩
def spLaw (K : PySem.W.Frag) : Sp := fun vs H Q _ => ∃ (a : Addr) (ns : List Int), vs = [.ref a] ∧ SqL K H a (ns.map V.int) ∧ ∀ H', Q (.bl true) H'
theorem okl_law {C_Hand C_BadStart C_BadSteps : Addr} (G : Gz mg) (D : Df K mg "law" s_law f fd ["_law_script"]) (T : Hd K mg C_Hand) (O : Ops P w K mg base C_Hand C_BadStart C_BadSteps) (c__law_pool : Callee P w K mg base CXn 1 "_law_pool" 1 (spPool K)) (c__law_draw : Callee P w K mg base CXn 1 "_law_draw" 2 spDraw)
    (c__law_row : Callee P w K mg base CXn 4 "_law_row" 1 spRow) (c__law_spoilt : Callee P w K mg base CXn 4 "_law_spoilt" 3 spSpoilt) (c__law_due : Callee P w K mg base CXn 4 "_law_due" 2 spDue) (c__law_told : Callee P w K mg base CXn 7 "_law_told" 2 spTold) : FnOk P w K mg base (L2.CX P w) 8 f fd ["_law_script"] (spLaw K) := by
  have g_Hand := T.at_
  have cls_Hand := T.cl
  obtain ⟨f0, fd0, M_Hand, F_Hand, b_Hand⟩ := O.mkh
  obtain ⟨p2, f2, fd2, p_words, F_words, b_words⟩ := O.words
  obtain ⟨p3, f3, fd3, p_steps, F_steps, b_steps⟩ := O.steps
  obtain ⟨p4, f4, fd4, p_start, F_start, b_start⟩ := O.start
  refine D.fn.ok sc_law (fun vs H Q E h => ?_) (fun cdv A outer s H vs Q E hr h => ⟨_, (pss_cons (ps_set (i := 1) sc_law.nd rfl (Or.inl rfl) (pe_cl (E := En) c__law_pool (hr.mono (by decide)) rfl passN (pa_cons (pv 0) pa_nil))) (pss_cons (ps_set (i := 2) sc_law.nd rfl (Or.inl rfl) (pe_cl (E := En) c__law_draw (hr.mono (by decide)) rfl passN (pa_cons (pv 1) (pa_cons pe_int pa_nil)))) (pss_cons (ps_asg (pe_cl (E := En) c__law_row (hr.mono (by decide)) rfl passN (pa_cons (pv 1) pa_nil)) (pg_tup rfl (pgs_cons (pg_name (i := 3) sc_law.nd rfl (Or.inl rfl)) (pgs_cons (pg_name (i := 4) sc_law.nd rfl (Or.inl rfl)) pgs_nil)))) (pss_cons (ps_for (passes_of rfl) rfl (pi_range1 rfl G.g_range (pa_cons (pv 2) pa_nil)) (pg_name (i := 5) sc_law.nd rfl (Or.inl rfl)) (pss_one (ps_if (PW.pt (pw_and (pt_val (pe_callB (isiK (K := K) rfl) rfl G.g_isinstance (by rfl) (pa_cons (pv 4) (pa_cons (pe_bltn (v := .ty "list") rfl G.g_list (by rfl) rfl) pa_nil)))) (pw_and1 (pt_cmpR op_gt (pe_callB (lenK (K := K) rfl) rfl G.g_len PySem.boot_len (pa_cons (pv 4) pa_nil)) pe_int (nomark _))))) (pss_one (ps_asg (pe_cl (E := En) c__law_spoilt (hr.mono (by decide)) rfl passN (pa_cons (pv 1) (pa_cons (pv 3) (pa_cons (pv 4) pa_nil)))) (pg_tup rfl (pgs_cons (pg_name (i := 3) sc_law.nd rfl (Or.inl rfl)) (pgs_cons (pg_name (i := 4) sc_law.nd rfl (Or.inl rfl)) pgs_nil))))) pss_nil))) (pss_cons (ps_set (i := 6) sc_law.nd rfl (Or.inl rfl) (pe_cl (E := En) c__law_due (hr.mono (by decide)) rfl passN (pa_cons (pv 3) (pa_cons (pv 4) pa_nil)))) (pss_cons (ps_if (pt_cmpR (op_neD hr.units) (pe_cl (E := En) c__law_told (hr.mono (by decide)) rfl passN (pa_cons (pv 3) (pa_cons (pv 4) pa_nil))) (pe_tup (pa_cons (pe_ix (ixK (K := K) rfl) (pv 6) pe_int (fun _ _ => rfl)) (pa_cons (pe_ix (ixK (K := K) rfl) (pv 6) pe_int (fun _ _ => rfl)) (pa_cons pe_bl pa_nil)))) (nomark _)) (pss_one (ps_ret pe_bl)) pss_nil) (pss_cons (ps_if (pt_cmpR op_ne (pe_ix (ixK (K := K) rfl) (pv 6) pe_int (fun _ _ => rfl)) pe_str (nomark _)) (pss_one (ps_ret pe_bl)) pss_nil) (pss_cons (ps_set (i := 7) sc_law.nd rfl (Or.inl rfl) (pe_callTy (listOfK (K := K) rfl) rfl G.g_list (by rfl) (pa_cons (pv 4) pa_nil))) (pss_cons (ps_set (i := 8) sc_law.nd rfl (Or.inl rfl) (pe_makeS M_Hand F_Hand (hr.mono (by decide)) rfl g_Hand b_Hand (fun σ => passAt (takes_of rfl rfl rfl rfl) σ) (pa_cons (pv 3) (pa_cons (pv 7) pa_nil)))) (pss_cons (ps_expr (pe_bm PySem.F.plainAttrs_list PySem.F.slot_list_append PySem.F.type_list_append mt_append (pv 7) (pa_cons (pe_ix (ixK (K := K) rfl) (pv 7) pe_int (fun _ _ => rfl)) pa_nil))) (pss_cons (ps_expr (pe_bm0 PySem.F.plainAttrs_list PySem.F.slot_list_reverse PySem.F.type_list_reverse mt_reverse (pv 7))) (pss_cons (ps_set (i := 9) sc_law.nd rfl (Or.inl rfl) (pe_callB (cr_sortSS rfl hr.units) rfl G.g_sorted (by rfl) (pa_cons (pe_callTy (cr_setOfS rfl) rfl G.g_set (by rfl) (pa_cons (pe_lc (own := [("_law_step", 10)]) rfl sc_law.nd (pi_or (pi_list (pv 4)) (pi_tup (pv 4))) (BlkOk.mk (N := ["_law_script", "_law_pool_here", "_law_times", "_law_start", "_law_steps", "_law_k", "_law_due_here", "_law_passed", "_law_hand", "_law_words", "_law_step"]) (sc := defScope s_law) rfl (by decide +kernel) (by decide +kernel) (by decide +kernel) (by decide +kernel)) (fun _ _ _ _ _ => (pg_name (i := 10) sc_law.nd rfl (Or.inl rfl))) (fun _ _ _ _ _ => pts_nil) (fun _ _ _ _ _ => (pe_ix (ixK (K := K) rfl) (pv 10) pe_int (fun _ _ => rfl)))) pa_nil)) pa_nil))) (pss_cons (ps_if (PW.pt (pw_or (pt_cmpR op_ne (pe_prop (E := En) (pv 8) cls_Hand p_start F_start (hr.mono (by decide)) b_start .nil passN rfl) (pv 3) (nomark _)) (pw_or (pt_cmpR (op_neD hr.units) (pe_prop (E := En) (pv 8) cls_Hand p_steps F_steps (hr.mono (by decide)) b_steps .nil passN rfl) (pe_callTy (tupOfK (K := K) rfl) rfl G.g_tuple (by rfl) (pa_cons (pv 4) pa_nil)) (nomark _)) (pw_or (pt_not (pt_val (pe_callB (isiK (K := K) rfl) rfl G.g_isinstance (by rfl) (pa_cons (pe_prop (E := En) (pv 8) cls_Hand p_words F_words (hr.mono (by decide)) b_words .nil passN rfl) (pa_cons (pe_bltn (v := .ty "list") rfl G.g_list (by rfl) rfl) pa_nil))))) (pw_or1 (pt_cmpR (op_neD hr.units) (pe_prop (E := En) (pv 8) cls_Hand p_words F_words (hr.mono (by decide)) b_words .nil passN rfl) (pv 9) (nomark _))))))) (pss_one (ps_ret pe_bl)) pss_nil) (pss_cons (ps_expr (pe_bm PySem.F.plainAttrs_list PySem.F.slot_list_append PySem.F.type_list_append mt_append (pe_prop (E := En) (pv 8) cls_Hand p_words F_words (hr.mono (by decide)) b_words .nil passN rfl) (pa_cons pe_str pa_nil))) (pss_cons (ps_expr (pe_bm0 PySem.F.plainAttrs_list PySem.F.slot_list_clear PySem.F.type_list_clear mt_clear (pe_prop (E := En) (pv 8) cls_Hand p_words F_words (hr.mono (by decide)) b_words .nil passN rfl))) (pss_one (ps_ret (L2.pe_and (pe_cmpR (op_eqD hr.units) (pe_prop (E := En) (pv 8) cls_Hand p_words F_words (hr.mono (by decide)) b_words .nil passN rfl) (pv 9) (nomark _)) (pe_one (pe_cmpR (op_eqD hr.units) (pe_prop (E := En) (pe_makeS M_Hand F_Hand (hr.mono (by decide)) rfl g_Hand b_Hand (fun σ => passAt (takes_of rfl rfl rfl rfl) σ) (pa_cons (pv 3) (pa_cons (pe_callTy (tupOfK (K := K) rfl) rfl G.g_tuple (by rfl) (pa_cons (pv 4) pa_nil)) pa_nil))) cls_Hand p_steps F_steps (hr.mono (by decide)) b_steps .nil passN rfl) (pe_callTy (tupOfK (K := K) rfl) rfl G.g_tuple (by rfl) (pa_cons (pv 4) pa_nil)) (nomark _))))))))))))))))))))), ?_⟩)
  · obtain ⟨_, _, rfl, _⟩ := h
    rfl
  · obtain ⟨a, ns, rfl, hS, k⟩ := h
    refine ⟨_, rfl, a, ns, rfl, hS, fun p H1 e1 hp0 P1 => ?_⟩
    refine ⟨_, rfl, p, 3, rfl, P1, by decide, by decide, fun tm H2 t0 t1 K2 P2 => ?_⟩
    refine ⟨_, rfl, p, rfl, P2, fun T0 b st ys us H3 s0 s99 K3 P3 nbp hT0 hb hys gus l1 l22 => ?_⟩
    refine ⟨T0, _, rfl, st_of hT0, rfl, _, _, rfl, _, _, rfl, rfl, ?_⟩
    refine ⟨_, rfl, tm, rfl, by omega, by omega, for_range (fun i σ' H' => ∃ v5 v1 v2, σ' = [some (.ref a), some (.ref p), some (.int tm), some v1, some v2, v5, none, none, none, none, none] ∧ Pool H' p ∧ Stt p H' v1 ∧ Srow p H' (22 + 3 * i) v2 ∧
      (i = 0 → ∀ b xs, v2 = .ref b → H' b = some (.lst xs) → ∀ x ∈ xs, stpB H' x = true) ∧ (i ≤ 1 → HasS H' v2)) ?_ ?_ ?_⟩
    · have hi : ∀ x ∈ ys, Itm p H3 x ∧ stpB H3 x = true := fun x mx => by
        obtain ⟨j, hj⟩ := List.getElem?_of_mem mx
        obtain ⟨u, hu, hst⟩ := hys.at hj
        have gu := gus u (List.mem_of_getElem? hu)
        have it := Itm.step P3 hst gu
        exact ⟨it, stp_true hst gu⟩
      refine ⟨none, _, _, rfl, P3, .int st, .row nbp (.inl hb) (by omega) fun x m => (hi x m).1, fun _ b' xs e hx x m => ?_, fun _ => .row hb fun ne => ?_⟩
      · cases e
        rw [hb] at hx
        cases hx
        exact (hi x m).2
      · obtain ⟨x, m⟩ := List.exists_mem_of_ne_nil _ ne
        exact ⟨x, m, (hi x m).2⟩
    · rintro i σ' H' hi ⟨v5, v1, v2, rfl, PP, hs, hr2, hall, hhas⟩
      have i1 : i ≤ 1 := by omega
      have stay : ∃ v5' v1' v2', [some (V.ref a), some (V.ref p), some (V.int tm), some v1, some v2, some (V.int (0 + (i : Int))), none, none, none, none, none] = [some (.ref a), some (.ref p), some (.int tm), some v1', some v2', v5', none, none, none, none, none] ∧ Pool H' p ∧ Stt p H' v1' ∧ Srow p H' (22 + 3 * (i + 1)) v2' ∧
        (i + 1 = 0 → ∀ b xs, v2' = .ref b → H' b = some (.lst xs) → ∀ x ∈ xs, stpB H' x = true) ∧ (i + 1 ≤ 1 → HasS H' v2') :=
        ⟨_, v1, v2, rfl, PP, hs, ⟨hr2.ne, hr2.pl, fun b xs e hx => ⟨by have := (hr2.it b xs e hx).1; omega, (hr2.it b xs e hx).2⟩⟩, fun z => absurd z (Nat.succ_ne_zero i), fun _ => hhas i1⟩
      obtain ⟨t, g⟩ := hr2.pl.kin (K := K)
      refine ⟨_, rfl, v2, .ty "list", t, .type "list", isL H' v2, rfl, .ty _, g.ty, g.list, isL H' v2, rfl, ?_⟩
      cases hL : isL H' v2 with
      | false => exact iteF stay
      | true =>
      refine iteT ?_
      obtain ⟨b, xs, rfl, hb⟩ : ∃ b xs, v2 = .ref b ∧ H' b = some (.lst xs) := by
        have hp := hr2.pl
        cases hp with
        | lst h => exact ⟨_, _, rfl, h⟩
        | tup h => rw [show isL H' _ = false from isL_at h] at hL; cases hL
        | dct h => rw [show isL H' _ = false from isL_at h] at hL; cases hL
        | _ => exact nomatch (show false = true from hL)
      refine ⟨_, rfl, .ref b, xs.length, rfl, .inl ⟨_, sq_of hb, rfl⟩, (xs.length : Int), 0, rfl, rfl, decide ((xs.length : Int) > 0), rfl, ?_⟩
      refine ite2 (fun h0 => ?_) (fun _ => stay)
      have h0 := of_decide_eq_true h0
      obtain ⟨lx, itx⟩ := hr2.it b xs rfl (.inl hb)
      have nbp' : b ≠ p := fun z => hr2.ne (z ▸ rfl)
      refine ⟨_, rfl, _, rfl, _, rfl, p, b, v1, xs, 22 + 3 * i, rfl, PP, hs, nbp', hb, lx, by omega, by omega, itx, hhas i1 b xs rfl hb (fun z => by rw [z] at h0; exact absurd h0 (by decide)), fun T1 v' r H4 K4 P4 hT1 hs' hr' hh' => ?_⟩
      refine ⟨T1, _, rfl, st_of hT1, rfl, _, _, rfl, _, _, rfl, rfl, ?_⟩
      exact ⟨_, v', r, rfl, P4, hs', hr', fun z => absurd z (Nat.succ_ne_zero i), fun z => hh' (hall (by omega) b xs rfl hb)⟩
    · rintro σ' H4 ⟨v5, v1, v2, rfl, P4, hs, hr2, _, _⟩
      obtain ⟨nm, x, du, dd, oknm, fin⟩ := due_go (K := K) hs hr2
      refine ⟨_, rfl, _, rfl, ?_⟩
      dsimp only [tNil]
      refine du.due H4 _ _ (Ex.refl _) fun H5 T5 e5 hT5 => ?_
      refine ⟨_, rfl, _, rfl, ?_⟩
      dsimp only [tNil]
      refine du.told H5 _ _ e5 fun H6 T6 e6 hT6 => ?_
      have hT56 := e6 _ _ hT5
      refine ⟨_, rfl, .inr (.inl ⟨T5, _, 0, _, rfl, rfl, st_of hT56, (by rfl), _, rfl, .inr (.inl ⟨T5, _, 1, _, rfl, rfl, st_of hT56, (by rfl), (by show 3 ≤ sizeLine; decide), fun T7 n7 => ?_⟩)⟩)⟩
      have e7 : Ex H6 (upd H6 T7 (.tup [.str nm, x, .bl true])) := Ex.new n7
      have hT7 : upd H6 T7 (.tup [.str nm, x, .bl true]) T7 = some (.tup [.str nm, x, .bl true]) := upd_same
      generalize upd H6 T7 (.tup [.str nm, x, .bl true]) = H7 at e7 hT7
      have e47 := e5.trans (e6.trans e7)
      obtain ⟨d, hd, cl, dp⟩ := dd H7 e47
      have lay : PyData.canLay0 (.tuple [.str nm, d, .bool true]) = true := by simp only [PyData.canLay0, PyData.canLayAll0, oknm, cl]; rfl
      have shp : SeqAt.shaped (.tuple [.str nm, d, .bool true]) = true := by
        show (PyData.canLay0 (.tuple [.str nm, d, .bool true]) && decide (PyData.depth (.tuple [.str nm, d, .bool true]) ≤ 64)) = true
        rw [lay, decide_eq_true (by simp only [PyData.depth, PyData.depthAll]; omega)]
        rfl
      refine ⟨.tuple [.str nm, d, .bool true], .tuple [.str nm, d, .bool true], .tup (st_of (e7 _ _ hT6)) (.cons (.str nm) (.cons hd (.cons (.bl true) .nil))), .tup (st_of hT7) (.cons (.str nm) (.cons hd (.cons (.bl true) .nil))), shp, shp, ?_⟩
      rw [PySem.SeqAt.eqv_refl _ lay]
      refine ⟨false, rfl, iteF ?_⟩
      have hT57 := e7 _ _ hT56
      rcases fin with hn | ⟨rfl, st', b', xs, ts, rfl, hst, rfl, lt⟩
      · refine ⟨_, rfl, .inr (.inl ⟨T5, _, 0, _, rfl, rfl, st_of hT57, (by rfl), rfl, true, ?_, iteT (k _)⟩)⟩
        show V.bl (!decide (V.str nm = V.str "hand")) = V.bl true
        rw [decide_eq_false (fun z => hn (V.str.inj z))]
        rfl
      refine ⟨_, rfl, .inr (.inl ⟨T5, _, 0, _, rfl, rfl, st_of hT57, (by rfl), rfl, false, ?_, iteF ?_⟩)⟩
      · show V.bl (!decide (V.str "hand" = V.str "hand")) = V.bl false
        rw [decide_eq_true rfl]
        rfl
      have lt7 := lt.ex e47
      clear hT5 hT6 hT56 hT57 hT7 hd dd du
      -- the hand
      refine ⟨.ref b', rfl, ?_⟩
      dsimp only [tNil]
      refine listof_go (K := K) lt7.x fun l H8 e8 nl hl => ?_
      have lt8 := lt7.ex e8
      refine ⟨_, rfl, _, rfl, fun o m ho hm hne => ?_⟩
      refine initG_go ho hm hne hst (lt8.other (.inl hl)) fun H9 e9 hh => ⟨rfl, ?_⟩
      have lt9 := lt8.ex e9
      have hl9 := e9 _ _ hl
      have lx := lt.l1
      have lx2 := lt.l20
      obtain ⟨x0, hx0⟩ : ∃ x0, xs[0]? = some x0 := ⟨_, List.getElem?_eq_getElem (by omega)⟩
      have l0 : H8 l ≠ none := some_ne hl
      refine ⟨_, rfl, .inl ⟨rfl, _, sq_of hl9⟩, _, rfl, .inl ⟨l, _, 0, x0, rfl, rfl, sq_of hl9, at_of (j := 0) rfl hx0, l, xs, x0, rfl, rfl, hl9, sz_lt (by omega), ?_⟩⟩
      have hhA := hh.put (o := .lst (xs ++ [x0])) l0 hl9
      have nbl : b' ≠ l := fun z => by
        rcases lt7.x with q | q <;> rw [z, nl] at q <;> cases q
      have ltA := lt9.put (o := .lst (xs ++ [x0])) nbl hl9
      refine ⟨_, rfl, .inl ⟨rfl, _, sq_of upd_same⟩, l, _, rfl, rfl, upd_same, ?_⟩
      have hhB := hhA.put (o := .lst (xs ++ [x0]).reverse) l0 upd_same
      have ltB := ltA.put (o := .lst (xs ++ [x0]).reverse) nbl upd_same
      generalize upd (upd H9 l (.lst (xs ++ [x0]))) l (.lst (xs ++ [x0]).reverse) = HB at hhB ltB
      replace hhB := hhB.at
      clear hhA ltA hh lt9 hl9 hl lt8 l0 e9 e8
      have gts := lt.good
      have okt : ∀ z ∈ ts, OkS z := fun z hz => (gts z hz).ok
      -- the words
      refine iseq_go rfl ltB.x fun J S D hD => ?_
      refine lc_ev (f := fun _ => true) (v := fun x => .str (wd HB x)) S (by omega) (fun x => rfl) hD (fun x _ H1 e Q q => q H1 (Ex.refl _)) (fun x mx _ H1 e Q q => ?_) (fun HC eC hd => ?_)
      · obtain ⟨j, hj⟩ := List.getElem?_of_mem mx
        obtain ⟨u, hu, hst2⟩ := ltB.rw_.at hj
        rw [wd_at hst2] at q
        obtain ⟨c, rfl, hc⟩ := hst2
        exact ⟨_, rfl, .inr (.inl ⟨c, _, 1, _, rfl, rfl, st_of (e _ _ hc), (by rfl), q H1 (Ex.refl _)⟩)⟩
      have hd2 : HC D = some (.lst ((ts.map (·.2.1)).map V.str)) := by
        rw [hd, List.filter_eq_self.mpr (fun _ _ => rfl), ← wd_map ltB.rw_, List.map_map]
        rfl
      dsimp only [tNil]
      refine words_go hd2 ?_ fun W ks HD eCD nd hm hW2 => ?_
      · rw [List.length_map, ← ltB.rw_.len]
        have : (1002 : Nat) ≤ scanBound := by decide
        omega
      have eD := eC.trans eCD
      have hhD := hhB.ex eD
      have ltD := ltB.ex eD
      clear hhB ltB hd hd2 eC
      have oks : ∀ z ∈ sortS ks, PyData.strOk z = true := fun z hz => by
        have h1 := (hm z).mp (sortS_mem.mp hz)
        obtain ⟨t, ht, rfl⟩ := List.mem_map.mp h1
        exact (gts t ht).ok
      have eks : ∀ {ls : List Str}, ls.Nodup → (∀ z, z ∈ ls ↔ z ∈ ts.map (·.2.1)) → sortS ls = sortS ks := fun {ls} n2 m2 => sortS_congr ((List.perm_ext_iff_of_nodup n2 nd).mpr fun z => by rw [m2, hm])
      -- what the hand tells
      obtain ⟨dx, fs, ins⟩ := hhD.ins
      refine ⟨_, rfl, o, dx, fs, rfl, ins, o, st', ts, rfl, hhD, _, rfl, rfl, false, ?_, iteF ?_⟩
      · show V.bl (!decide (V.int st' = V.int st')) = V.bl false
        rw [decide_eq_true rfl]
        rfl
      refine ⟨_, rfl, o, dx, fs, rfl, ins, o, st', ts, rfl, hhD, fun tp xs5 htp hw5 => ?_⟩
      refine ⟨.ref b', rfl, ?_⟩
      dsimp only [tNil]
      refine tupof_go (K := K) ltD.x fun tp2 HE eE htp2 => ?_
      refine ⟨.tuple (ts.map encS), .tuple (ts.map encS), .tup (st_of (eE _ _ htp)) (hw5.ex eE).dps, .tup (st_of htp2) (ltD.rw_.ex eE).dps, encSs_shapedT okt, encSs_shapedT okt, ?_⟩
      rw [encSs_eqvT, decide_eq_true rfl]
      refine ⟨false, rfl, iteF ?_⟩
      refine ⟨_, rfl, o, dx, fs, rfl, eE _ _ ins, o, st', ts, rfl, hhD.ex eE, fun l1 k1 HF eF f1 nd1 hm1 hl1 => ?_⟩
      refine ⟨.ref l1, .ty "list", .type "list", .type "list", true, rfl, .ty _, .base (.lst hl1), kit_ty (by decide +kernel), true, rfl, iteF ?_⟩
      have eDF := eE.trans eF
      refine ⟨_, rfl, o, dx, fs, rfl, eDF _ _ ins, o, st', ts, rfl, hhD.ex eDF, fun l2 k2 HG eG f2 nd2 hm2 hl2 => ?_⟩
      have eDG := eDF.trans eG
      refine ⟨_, rfl, .list ((sortS ks).map PyData.str), .list ((sortS ks).map PyData.str), .lst (sq_of (by rw [← eks nd2 hm2]; exact hl2)) (str_dps _), .lst (sq_of (eDG _ _ hW2)) (str_dps _), str_shaped oks, str_shaped oks, ?_⟩
      rw [strs_eqv]
      refine ⟨false, rfl, iteF ?_⟩
      -- its words are the caller's
      refine ⟨_, rfl, o, dx, fs, rfl, eDG _ _ ins, o, st', ts, rfl, hhD.ex eDG, fun l3 k3 HI eI f3 nd3 hm3 hl3 => ⟨.inl ⟨rfl, _, sq_of hl3⟩, l3, _, .str "a", rfl, rfl, hl3, sz_lt ?_, ?_⟩⟩
      · rw [List.length_map, sortS_len]
        have := pigeon k3 (ts.map (·.2.1)) nd3 fun x hx => (hm3 x).mp hx
        rw [List.length_map, ← lt.rw_.len] at this
        omega
      have eDI := eDG.trans (eI.mut (o := .lst ((sortS k3).map V.str ++ [.str "a"])) f3)
      generalize upd HI l3 (.lst ((sortS k3).map V.str ++ [.str "a"])) = HJ at eDI
      refine ⟨_, rfl, o, dx, fs, rfl, eDI _ _ ins, o, st', ts, rfl, hhD.ex eDI, fun l4 k4 HK eK f4 nd4 hm4 hl4 => ⟨.inl ⟨rfl, _, sq_of hl4⟩, l4, _, rfl, rfl, hl4, ?_⟩⟩
      have eDK := eDI.trans (eK.mut (o := .lst []) f4)
      generalize upd HK l4 (.lst []) = HL at eDK
      refine ⟨_, rfl, o, dx, fs, rfl, eDK _ _ ins, o, st', ts, rfl, hhD.ex eDK, fun l5 k5 HM eM f5 nd5 hm5 hl5 => ?_⟩
      have eDM := eDK.trans eM
      refine ⟨_, rfl, .list ((sortS ks).map PyData.str), .list ((sortS ks).map PyData.str), .lst (sq_of (by rw [← eks nd5 hm5]; exact hl5)) (str_dps _), .lst (sq_of (eDM _ _ hW2)) (str_dps _), str_shaped oks, str_shaped oks, ?_⟩
      rw [strs_eqv]
      refine ⟨true, rfl, ?_⟩
      have ltM := ltD.ex eDM
      refine ⟨_, rfl, .ref b', rfl, ?_⟩
      dsimp only [tNil]
      refine tupof_go (K := K) ltM.x fun tp3 HN eN htp3 => ?_
      have ltN := ltM.ex eN
      intro o2 m2 ho2 hm2' hne2
      refine initG_go ho2 hm2' hne2 hst (ltN.other (.inr htp3)) fun HO' eO hO => ⟨rfl, ?_⟩
      obtain ⟨dx2, fs2, ins2⟩ := hO.at.ins
      refine ⟨o2, dx2, fs2, rfl, ins2, o2, st', ts, rfl, hO.at, fun tp4 xs4 htp4 hw4 => ?_⟩
      refine ⟨.ref b', rfl, ?_⟩
      dsimp only [tNil]
      refine tupof_go (K := K) (ltN.ex eO).x fun tp5 HP' eP htp5 => ?_
      refine ⟨.tuple (ts.map encS), .tuple (ts.map encS), .tup (st_of (eP _ _ htp4)) (hw4.ex eP).dps, .tup (st_of htp5) ((ltN.ex eO).rw_.ex eP).dps, encSs_shapedT okt, encSs_shapedT okt, ?_⟩
      rw [encSs_eqvT, decide_eq_true rfl]
      exact k _
end
end WK

set_option Elab.async false
set_option linter.all false
set_option maxRecDepth 100000
set_option maxHeartbeats 0
namespace WK
open PySem PySem.Spec PyProof.Rows L2 WW Evl
abbrev s_BadStart : Stmt := inClass (top 2) 0
abbrev s_BadSteps : Stmt := inClass (top 3) 0
def dG (x : Str) (st : Stmt) : He5.DefA := { at_ := fun K => He.ga K x, name := x, qual := x, params := defArgs st, body := defBody st, scope := defScope st }
def dM (m : Str) (q : Str) (st : Stmt) : He5.DefA := { at_ := fun K => He.ma K (He.ga K "Hand") m, name := m, qual := q, params := defArgs st, body := defBody st, scope := defScope st }
def dP (m : Str) (q : Str) (st : Stmt) : He5.DefA := { at_ := fun K => getr K (He.ga K "Hand") m, name := m, qual := q, params := defArgs st, body := defBody st, scope := defScope st }
def dE (x : Str) (q : Str) (st : Stmt) : DefE := { cls := x, qual := q, params := defArgs st, body := defBody st, scope := defScope st }
def fn : List He5.DefA := [dG "law" s_law, dG "_law_told" s__law_told, dG "_law_due" s__law_due, dG "_law_is_step" s__law_is_step, dG "_law_is_name" s__law_is_name, dG "_law_is_state" s__law_is_state, dG "_law_whole" s__law_whole, dG "_law_spoilt" s__law_spoilt, dG "_law_odd_step" s__law_odd_step, dG "_law_row" s__law_row, dG "_law_names" s__law_names, dG "_law_name" s__law_name, dG "_law_pick" s__law_pick, dG "_law_draw" s__law_draw, dG "_law_pool" s__law_pool, dG "is_one_too_many" s_is_one_too_many, dG "is_step" s_is_step, dG "check_steps" s_check_steps, dG "is_state" s_is_state, dG "is_name" s_is_name, dG "is_row_of" s_is_row_of, dG "is_row" s_is_row, dG "is_integer" s_is_integer, dM "__init__" "Hand.__init__" s_Hand___init__, dP "start" "Hand.start" s_Hand_start, dP "steps" "Hand.steps" s_Hand_steps, dP "words" "Hand.words" s_Hand_words]
def fe : List DefE := [dE "BadStart" "BadStart.__init__" s_BadStart, dE "BadSteps" "BadSteps.__init__" s_BadSteps]
def gnames : List Str := ["law", "_law_told", "_law_due", "_law_is_step", "_law_is_name", "_law_is_state", "_law_whole", "_law_spoilt", "_law_odd_step", "_law_row", "_law_names", "_law_name", "_law_pick", "_law_draw", "_law_pool", "is_one_too_many", "is_step", "check_steps", "is_state", "is_name", "is_row_of", "is_row", "is_integer", "Hand", "BadStart", "BadSteps", "WorksError", "TooMany"]
def bnames : List Str := ["len", "isinstance", "int", "bool", "str", "list", "tuple", "all", "abs", "max", "sorted", "range", "enumerate", "set", "ValueError", "super"]
def oth : List He.Fa := [.int "MOST_LETTERS" 10, .int "GREATEST_STATE" 99, .int "MOST_STEPS" 20, .int "MOST_STEPS_AT_ONE_STATE" 3, .cls "Hand", .mkr "Hand", .noat "Hand" "_start", .noat "Hand" "_steps", .noat "Hand" "_words", .noat "Hand" "_ordered_steps"]
def fa : List He.Fa := gnames.map He.Fa.glo ++ (bnames.map He.Fa.free ++ oth)
theorem gl_mem {x : Str} (h : x ∈ gnames) : He.Fa.glo x ∈ fa := List.mem_append_left _ (List.mem_map.mpr ⟨x, h, rfl⟩)
theorem fr_mem {x : Str} (h : x ∈ bnames) : He.Fa.free x ∈ fa := List.mem_append_right _ (List.mem_append_left _ (List.mem_map.mpr ⟨x, h, rfl⟩))
theorem ot_mem {f : He.Fa} (i : Nat) (h : oth[i]? = some f) : f ∈ fa := List.mem_append_right _ (List.mem_append_right _ (List.mem_of_getElem? h))
def isaB (K : PySem.W.Frag) (C : Addr) : Bool := He.eqO (PySem.W.findIn K (.ref C) "__class__") (some (some (.builtin "object.__class__"))) && (He.eqO (PySem.W.specialIn K (.builtin "object.__class__") "__get__") (some (some (.builtin "getset_descriptor.__get__"))) && (decide (PySem.W.takesIn K (.builtin "object.__class__") = some true) && decide (PySem.W.mroIn K C (.type "object") = some true)))
theorem isaB_ok {K : PySem.W.Frag} {C : Addr} (h : isaB K C = true) (cl : Cls K C) (H : Hp) (a dx : Addr) (fs : List (Str × V)) (e : H a = some (.ins C dx fs)) : TyOf K H (.ref a) (.ref C) := by
  obtain ⟨h1, h⟩ := He.ba h
  obtain ⟨h2, h⟩ := He.ba h
  obtain ⟨h3, h4⟩ := He.ba h
  exact .ins e cl (He.eqO_ok h1) (He.eqO_ok h2) (of_decide_eq_true h3) (of_decide_eq_true h4)
abbrev Pr : Program := (PySem.Challenge.rw_watchedworks_k00_hands_told_and_refused).prog
def excB (K : PySem.W.Frag) (C : Addr) : Bool := xfB K C && (He.eqO (PySem.W.findIn K (.ref C) "__class__") (some (some (.builtin "object.__class__"))) && (He.eqO (PySem.W.specialIn K (.builtin "object.__class__") "__get__") (some (some (.builtin "getset_descriptor.__get__"))) && (decide (PySem.W.takesIn K (.builtin "object.__class__") = some true) && decide (PySem.W.mroIn K C (.type "object") = some true))))
theorem excB_ok {K : PySem.W.Frag} {C : Addr} (h : excB K C = true) : XfC K C ∧ ExcC K C := by
  obtain ⟨h1, h⟩ := He.ba h
  obtain ⟨h2, h⟩ := He.ba h
  obtain ⟨h3, h⟩ := He.ba h
  obtain ⟨h4, h5⟩ := He.ba h
  have x := xfB_ok h1
  exact ⟨x, x.ga, x.gg, x.exC, x.hdC, He.eqO_ok h2, He.eqO_ok h3, of_decide_eq_true h4, of_decide_eq_true h5⟩
def exL (K : PySem.W.Frag) : List Bool := [isaB K (He.ga K "Hand"), propB K (He.ga K "Hand") "start", propB K (He.ga K "Hand") "steps", propB K (He.ga K "Hand") "words", exdB Pr.main.file K (dE "BadStart" "BadStart.__init__" s_BadStart), exdB Pr.main.file K (dE "BadSteps" "BadSteps.__init__" s_BadSteps),
  excB K (He.ga K "BadStart"), excB K (He.ga K "BadSteps"), He.eqO (PySem.W.findIn K (.ref (He.ga K "BadStart")) "value") (some none), He.eqO (PySem.W.findIn K (.ref (He.ga K "BadSteps")) "at") (some none),
  decide (PySem.W.exmOne K (.ref (He.ga K "BadStart")) (.ref (He.ga K "BadStart")) = some true), decide (PySem.W.exmOne K (.ref (He.ga K "BadSteps")) (.ref (He.ga K "BadStart")) = some false), decide (PySem.W.exmOne K (.ref (He.ga K "BadSteps")) (.ref (He.ga K "BadSteps")) = some true),
  decide (PySem.W.kitOne K (.ref (He.ga K "BadStart")) (.ref (He.ga K "WorksError")) = some true), decide (PySem.W.kitOne K (.ref (He.ga K "BadStart")) (.ref (He.ga K "BadSteps")) = some false), decide (PySem.W.kitOne K (.ref (He.ga K "BadSteps")) (.ref (He.ga K "WorksError")) = some true),
  decide (PySem.W.kitOne K (.ref (He.ga K "BadSteps")) (.type "ValueError") = some true), decide (PySem.W.kitOne K (.ref (He.ga K "BadSteps")) (.ref (He.ga K "TooMany")) = some false)]
def ex (K : PySem.W.Frag) : Bool := (exL K).all id
abbrev R : PySem.W.OpenRow := PySem.W.OpenLaw.row PySem.Challenge.rw_watchedworks_k00_hands_told_and_refused
abbrev hk : PySem.W.Hook := hookE 5 fa fn fe ex
def ob (s : PySem.W.SharedT) : AlE := obsEG 5 fa fn fe ex (HandSHeadRun.getT s)
theorem ob_eq (s : PySem.W.SharedT) : ob s = hk.obs s.abs := obsEG_eq (HandSHeadRun.getT_eq s)
abbrev loose : List Str := ["WorksError", "BadStart", "BadSteps", "TooMany", "MOST_LETTERS", "GREATEST_STATE", "is_integer", "is_row", "is_row_of", "is_name", "is_state", "MOST_STEPS", "MOST_STEPS_AT_ONE_STATE", "Hand", "check_steps", "is_step", "is_one_too_many", "_law_pool", "_law_draw", "_law_pick", "_law_name", "_law_names", "_law_whole", "_law_is_state", "_law_is_name", "_law_is_step", "_law_due", "_law_told", "_law_row", "_law_odd_step", "_law_spoilt"]
theorem run (w : World) : HandSHeadRun.RunEq R (PySem.W.view R.prog [35]) hk ob 6000 loose w := by
  intro os
  kernel_rfl
theorem facts {w : World} {K : PySem.W.Frag} {h : Heap} {mg : Str → Option Value} {f : Addr} (X : K.In h) (Gn : h.Ns mainGlobals mg) (hfa : mg ("law" : Str) = some (.ref f)) (ce : SaysE fa fn fe ex K) :
    ∃ fd : FuncData, (∀ (s : Shared) (v : Value), BindsTo s fd ⟨[v], []⟩ [("_law_script", v)]) ∧ ∀ base : Heap, K.In base → base.Ns mainGlobals mg → FnOk Pr w K mg base CXn 8 f fd ["_law_script"] (spLaw K) := by
  have c := ce.b
  have fr : ∀ {x : Str}, x ∈ bnames → mg x = none := fun m => He.free_ok X Gn (c.fact (fr_mem m))
  have gl : ∀ {x : Str}, x ∈ gnames → mg x = some (.ref (He.ga K x)) := fun m => He.glo_ok X Gn (c.fact (gl_mem m))
  have G : Gz mg := ⟨fr (x := "len") (by decide +kernel), fr (x := "isinstance") (by decide +kernel), fr (x := "int") (by decide +kernel), fr (x := "bool") (by decide +kernel), fr (x := "str") (by decide +kernel), fr (x := "list") (by decide +kernel), fr (x := "tuple") (by decide +kernel), fr (x := "all") (by decide +kernel), fr (x := "abs") (by decide +kernel), fr (x := "max") (by decide +kernel), fr (x := "sorted") (by decide +kernel), fr (x := "range") (by decide +kernel), fr (x := "enumerate") (by decide +kernel), fr (x := "set") (by decide +kernel)⟩
  obtain ⟨fd0, D0⟩ := c.def_ 0 (d := dG "law" s_law) rfl
  replace D0 : FunD K "law" "law" (defArgs s_law) (defBody s_law) (defScope s_law) [] [] _ fd0 := D0
  obtain ⟨fd1, D1⟩ := c.def_ 1 (d := dG "_law_told" s__law_told) rfl
  replace D1 : FunD K "_law_told" "_law_told" (defArgs s__law_told) (defBody s__law_told) (defScope s__law_told) [] [] _ fd1 := D1
  obtain ⟨fd2, D2⟩ := c.def_ 2 (d := dG "_law_due" s__law_due) rfl
  replace D2 : FunD K "_law_due" "_law_due" (defArgs s__law_due) (defBody s__law_due) (defScope s__law_due) [] [] _ fd2 := D2
  obtain ⟨fd3, D3⟩ := c.def_ 3 (d := dG "_law_is_step" s__law_is_step) rfl
  replace D3 : FunD K "_law_is_step" "_law_is_step" (defArgs s__law_is_step) (defBody s__law_is_step) (defScope s__law_is_step) [] [] _ fd3 := D3
  obtain ⟨fd4, D4⟩ := c.def_ 4 (d := dG "_law_is_name" s__law_is_name) rfl
  replace D4 : FunD K "_law_is_name" "_law_is_name" (defArgs s__law_is_name) (defBody s__law_is_name) (defScope s__law_is_name) [] [] _ fd4 := D4
  obtain ⟨fd5, D5⟩ := c.def_ 5 (d := dG "_law_is_state" s__law_is_state) rfl
  replace D5 : FunD K "_law_is_state" "_law_is_state" (defArgs s__law_is_state) (defBody s__law_is_state) (defScope s__law_is_state) [] [] _ fd5 := D5
  obtain ⟨fd6, D6⟩ := c.def_ 6 (d := dG "_law_whole" s__law_whole) rfl
  replace D6 : FunD K "_law_whole" "_law_whole" (defArgs s__law_whole) (defBody s__law_whole) (defScope s__law_whole) [] [] _ fd6 := D6
  obtain ⟨fd7, D7⟩ := c.def_ 7 (d := dG "_law_spoilt" s__law_spoilt) rfl
  replace D7 : FunD K "_law_spoilt" "_law_spoilt" (defArgs s__law_spoilt) (defBody s__law_spoilt) (defScope s__law_spoilt) [] [] _ fd7 := D7
  obtain ⟨fd8, D8⟩ := c.def_ 8 (d := dG "_law_odd_step" s__law_odd_step) rfl
  replace D8 : FunD K "_law_odd_step" "_law_odd_step" (defArgs s__law_odd_step) (defBody s__law_odd_step) (defScope s__law_odd_step) [] [] _ fd8 := D8
  obtain ⟨fd9, D9⟩ := c.def_ 9 (d := dG "_law_row" s__law_row) rfl
  replace D9 : FunD K "_law_row" "_law_row" (defArgs s__law_row) (defBody s__law_row) (defScope s__law_row) [] [] _ fd9 := D9
  obtain ⟨fd10, D10⟩ := c.def_ 10 (d := dG "_law_names" s__law_names) rfl
  replace D10 : FunD K "_law_names" "_law_names" (defArgs s__law_names) (defBody s__law_names) (defScope s__law_names) [] [] _ fd10 := D10
  obtain ⟨fd11, D11⟩ := c.def_ 11 (d := dG "_law_name" s__law_name) rfl
  replace D11 : FunD K "_law_name" "_law_name" (defArgs s__law_name) (defBody s__law_name) (defScope s__law_name) [] [] _ fd11 := D11
  obtain ⟨fd12, D12⟩ := c.def_ 12 (d := dG "_law_pick" s__law_pick) rfl
  replace D12 : FunD K "_law_pick" "_law_pick" (defArgs s__law_pick) (defBody s__law_pick) (defScope s__law_pick) [] [] _ fd12 := D12
  obtain ⟨fd13, D13⟩ := c.def_ 13 (d := dG "_law_draw" s__law_draw) rfl
  replace D13 : FunD K "_law_draw" "_law_draw" (defArgs s__law_draw) (defBody s__law_draw) (defScope s__law_draw) [] [] _ fd13 := D13
  obtain ⟨fd14, D14⟩ := c.def_ 14 (d := dG "_law_pool" s__law_pool) rfl
  replace D14 : FunD K "_law_pool" "_law_pool" (defArgs s__law_pool) (defBody s__law_pool) (defScope s__law_pool) [] [] _ fd14 := D14
  obtain ⟨fd15, D15⟩ := c.def_ 15 (d := dG "is_one_too_many" s_is_one_too_many) rfl
  replace D15 : FunD K "is_one_too_many" "is_one_too_many" (defArgs s_is_one_too_many) (defBody s_is_one_too_many) (defScope s_is_one_too_many) [] [] _ fd15 := D15
  obtain ⟨fd16, D16⟩ := c.def_ 16 (d := dG "is_step" s_is_step) rfl
  replace D16 : FunD K "is_step" "is_step" (defArgs s_is_step) (defBody s_is_step) (defScope s_is_step) [] [] _ fd16 := D16
  obtain ⟨fd17, D17⟩ := c.def_ 17 (d := dG "check_steps" s_check_steps) rfl
  replace D17 : FunD K "check_steps" "check_steps" (defArgs s_check_steps) (defBody s_check_steps) (defScope s_check_steps) [] [] _ fd17 := D17
  obtain ⟨fd18, D18⟩ := c.def_ 18 (d := dG "is_state" s_is_state) rfl
  replace D18 : FunD K "is_state" "is_state" (defArgs s_is_state) (defBody s_is_state) (defScope s_is_state) [] [] _ fd18 := D18
  obtain ⟨fd19, D19⟩ := c.def_ 19 (d := dG "is_name" s_is_name) rfl
  replace D19 : FunD K "is_name" "is_name" (defArgs s_is_name) (defBody s_is_name) (defScope s_is_name) [] [] _ fd19 := D19
  obtain ⟨fd20, D20⟩ := c.def_ 20 (d := dG "is_row_of" s_is_row_of) rfl
  replace D20 : FunD K "is_row_of" "is_row_of" (defArgs s_is_row_of) (defBody s_is_row_of) (defScope s_is_row_of) [] [] _ fd20 := D20
  obtain ⟨fd21, D21⟩ := c.def_ 21 (d := dG "is_row" s_is_row) rfl
  replace D21 : FunD K "is_row" "is_row" (defArgs s_is_row) (defBody s_is_row) (defScope s_is_row) [] [] _ fd21 := D21
  obtain ⟨fd22, D22⟩ := c.def_ 22 (d := dG "is_integer" s_is_integer) rfl
  replace D22 : FunD K "is_integer" "is_integer" (defArgs s_is_integer) (defBody s_is_integer) (defScope s_is_integer) [] [] _ fd22 := D22
  obtain ⟨fd23, D23⟩ := c.def_ 23 (d := dM "__init__" "Hand.__init__" s_Hand___init__) rfl
  replace D23 : FunD K "__init__" "Hand.__init__" (defArgs s_Hand___init__) (defBody s_Hand___init__) (defScope s_Hand___init__) [] [] _ fd23 := D23
  obtain ⟨fd24, D24⟩ := c.def_ 24 (d := dP "start" "Hand.start" s_Hand_start) rfl
  replace D24 : FunD K "start" "Hand.start" (defArgs s_Hand_start) (defBody s_Hand_start) (defScope s_Hand_start) [] [] _ fd24 := D24
  obtain ⟨fd25, D25⟩ := c.def_ 25 (d := dP "steps" "Hand.steps" s_Hand_steps) rfl
  replace D25 : FunD K "steps" "Hand.steps" (defArgs s_Hand_steps) (defBody s_Hand_steps) (defScope s_Hand_steps) [] [] _ fd25 := D25
  obtain ⟨fd26, D26⟩ := c.def_ 26 (d := dP "words" "Hand.words" s_Hand_words) rfl
  replace D26 : FunD K "words" "Hand.words" (defArgs s_Hand_words) (defBody s_Hand_words) (defScope s_Hand_words) [] [] _ fd26 := D26
  have e0 := hfa.symm.trans (gl (x := "law") (by decide +kernel))
  cases e0
  have E0 : Df K mg "law" s_law _ fd0 ["_law_script"] := ⟨D0, hfa, D0.bindsN fun _ _ _ _ _ _ us hl => match us, hl with | [_], _ => rfl⟩
  have E1 : Df K mg "_law_told" s__law_told _ fd1 ["_law_start", "_law_steps"] := ⟨D1, gl (x := "_law_told") (by decide +kernel), D1.bindsN fun _ _ _ _ _ _ us hl => match us, hl with | [_, _], _ => rfl⟩
  have E2 : Df K mg "_law_due" s__law_due _ fd2 ["_law_start", "_law_steps"] := ⟨D2, gl (x := "_law_due") (by decide +kernel), D2.bindsN fun _ _ _ _ _ _ us hl => match us, hl with | [_, _], _ => rfl⟩
  have E3 : Df K mg "_law_is_step" s__law_is_step _ fd3 ["_law_thing"] := ⟨D3, gl (x := "_law_is_step") (by decide +kernel), D3.bindsN fun _ _ _ _ _ _ us hl => match us, hl with | [_], _ => rfl⟩
  have E4 : Df K mg "_law_is_name" s__law_is_name _ fd4 ["_law_thing"] := ⟨D4, gl (x := "_law_is_name") (by decide +kernel), D4.bindsN fun _ _ _ _ _ _ us hl => match us, hl with | [_], _ => rfl⟩
  have E5 : Df K mg "_law_is_state" s__law_is_state _ fd5 ["_law_thing"] := ⟨D5, gl (x := "_law_is_state") (by decide +kernel), D5.bindsN fun _ _ _ _ _ _ us hl => match us, hl with | [_], _ => rfl⟩
  have E6 : Df K mg "_law_whole" s__law_whole _ fd6 ["_law_thing"] := ⟨D6, gl (x := "_law_whole") (by decide +kernel), D6.bindsN fun _ _ _ _ _ _ us hl => match us, hl with | [_], _ => rfl⟩
  have E7 : Df K mg "_law_spoilt" s__law_spoilt _ fd7 ["_law_pool_here", "_law_start", "_law_steps"] := ⟨D7, gl (x := "_law_spoilt") (by decide +kernel), D7.bindsN fun _ _ _ _ _ _ us hl => match us, hl with | [_, _, _], _ => rfl⟩
  have E8 : Df K mg "_law_odd_step" s__law_odd_step _ fd8 ["_law_pool_here", "_law_step"] := ⟨D8, gl (x := "_law_odd_step") (by decide +kernel), D8.bindsN fun _ _ _ _ _ _ us hl => match us, hl with | [_, _], _ => rfl⟩
  have E9 : Df K mg "_law_row" s__law_row _ fd9 ["_law_pool_here"] := ⟨D9, gl (x := "_law_row") (by decide +kernel), D9.bindsN fun _ _ _ _ _ _ us hl => match us, hl with | [_], _ => rfl⟩
  have E10 : Df K mg "_law_names" s__law_names _ fd10 ["_law_pool_here", "_law_many"] := ⟨D10, gl (x := "_law_names") (by decide +kernel), D10.bindsN fun _ _ _ _ _ _ us hl => match us, hl with | [_, _], _ => rfl⟩
  have E11 : Df K mg "_law_name" s__law_name _ fd11 ["_law_pool_here", "_law_taken"] := ⟨D11, gl (x := "_law_name") (by decide +kernel), D11.bindsN fun _ _ _ _ _ _ us hl => match us, hl with | [_, _], _ => rfl⟩
  have E12 : Df K mg "_law_pick" s__law_pick _ fd12 ["_law_pool_here", "_law_items"] := ⟨D12, gl (x := "_law_pick") (by decide +kernel), D12.bindsN fun _ _ _ _ _ _ us hl => match us, hl with | [_, _], _ => rfl⟩
  have E13 : Df K mg "_law_draw" s__law_draw _ fd13 ["_law_pool_here", "_law_many"] := ⟨D13, gl (x := "_law_draw") (by decide +kernel), D13.bindsN fun _ _ _ _ _ _ us hl => match us, hl with | [_, _], _ => rfl⟩
  have E14 : Df K mg "_law_pool" s__law_pool _ fd14 ["_law_script"] := ⟨D14, gl (x := "_law_pool") (by decide +kernel), D14.bindsN fun _ _ _ _ _ _ us hl => match us, hl with | [_], _ => rfl⟩
  have E15 : Df K mg "is_one_too_many" s_is_one_too_many _ fd15 ["step", "earlier"] := ⟨D15, gl (x := "is_one_too_many") (by decide +kernel), D15.bindsN fun _ _ _ _ _ _ us hl => match us, hl with | [_, _], _ => rfl⟩
  have E16 : Df K mg "is_step" s_is_step _ fd16 ["thing"] := ⟨D16, gl (x := "is_step") (by decide +kernel), D16.bindsN fun _ _ _ _ _ _ us hl => match us, hl with | [_], _ => rfl⟩
  have E17 : Df K mg "check_steps" s_check_steps _ fd17 ["steps"] := ⟨D17, gl (x := "check_steps") (by decide +kernel), D17.bindsN fun _ _ _ _ _ _ us hl => match us, hl with | [_], _ => rfl⟩
  have E18 : Df K mg "is_state" s_is_state _ fd18 ["thing"] := ⟨D18, gl (x := "is_state") (by decide +kernel), D18.bindsN fun _ _ _ _ _ _ us hl => match us, hl with | [_], _ => rfl⟩
  have E19 : Df K mg "is_name" s_is_name _ fd19 ["thing"] := ⟨D19, gl (x := "is_name") (by decide +kernel), D19.bindsN fun _ _ _ _ _ _ us hl => match us, hl with | [_], _ => rfl⟩
  have E20 : Df K mg "is_row_of" s_is_row_of _ fd20 ["thing", "least", "most"] := ⟨D20, gl (x := "is_row_of") (by decide +kernel), D20.bindsN fun _ _ _ _ _ _ us hl => match us, hl with | [_, _, _], _ => rfl⟩
  have E21 : Df K mg "is_row" s_is_row _ fd21 ["thing"] := ⟨D21, gl (x := "is_row") (by decide +kernel), D21.bindsN fun _ _ _ _ _ _ us hl => match us, hl with | [_], _ => rfl⟩
  have E22 : Df K mg "is_integer" s_is_integer _ fd22 ["thing"] := ⟨D22, gl (x := "is_integer") (by decide +kernel), D22.bindsN fun _ _ _ _ _ _ us hl => match us, hl with | [_], _ => rfl⟩
  have i1 := He.int_ok X Gn (c.fact (f := .int "MOST_LETTERS" 10) (ot_mem 0 rfl))
  have i2 := He.int_ok X Gn (c.fact (f := .int "GREATEST_STATE" 99) (ot_mem 1 rfl))
  have i3 := He.int_ok X Gn (c.fact (f := .int "MOST_STEPS" 20) (ot_mem 2 rfl))
  have i4 := He.int_ok X Gn (c.fact (f := .int "MOST_STEPS_AT_ONE_STATE" 3) (ot_mem 3 rfl))
  have cl := He.cls_ok (c.fact (f := .cls "Hand") (ot_mem 4 rfl))
  have xx : (exL K).all id = true := c.ext
  have T : Hd K mg (He.ga K "Hand") := ⟨cl, gl (x := "Hand") (by decide +kernel), He.noat_ok (c.fact (f := .noat "Hand" "_start") (ot_mem 6 rfl)), He.noat_ok (c.fact (f := .noat "Hand" "_steps") (ot_mem 7 rfl)),
    He.noat_ok (c.fact (f := .noat "Hand" "_words") (ot_mem 8 rfl)), He.noat_ok (c.fact (f := .noat "Hand" "_ordered_steps") (ot_mem 9 rfl)), isaB_ok (all_at xx 0 rfl) cl⟩
  have mk := He.mkr_ok (c.fact (f := .mkr "Hand") (ot_mem 5 rfl))
  have top0 : (Pr.main.scope.names.lookup ("super" : Str)).isSome = false := by kernel_rfl
  obtain ⟨fdS, dS, findS, typS⟩ := exdB_ok (P := Pr) (d := dE "BadStart" "BadStart.__init__" s_BadStart) (all_at xx 4 rfl) (ce.exc 0) (fr (x := "super") (by decide +kernel)) top0
  obtain ⟨fdB, dB, findB, typB⟩ := exdB_ok (P := Pr) (d := dE "BadSteps" "BadSteps.__init__" s_BadSteps) (all_at xx 5 rfl) (ce.exc 1) (fr (x := "super") (by decide +kernel)) top0
  replace dS : ExD Pr K mg (He.ga K "BadStart") (exI K "BadStart") (exCc K "BadStart") (exCda K "BadStart") "BadStart.__init__" (defArgs s_BadStart) (defBody s_BadStart) (defScope s_BadStart) fdS := dS
  replace dB : ExD Pr K mg (He.ga K "BadSteps") (exI K "BadSteps") (exCc K "BadSteps") (exCda K "BadSteps") "BadSteps.__init__" (defArgs s_BadSteps) (defBody s_BadSteps) (defScope s_BadSteps) fdB := dB
  have tS : ExT "value" (defArgs s_BadStart) (defScope s_BadStart) := ⟨⟨_, rfl, rfl⟩, rfl, rfl, rfl, by decide +kernel, by rfl, by rfl, by rfl, by rfl, by decide +kernel, by decide +kernel⟩
  have tB : ExT "at" (defArgs s_BadSteps) (defScope s_BadSteps) := ⟨⟨_, rfl, rfl⟩, rfl, rfl, rfl, by decide +kernel, by rfl, by rfl, by rfl, by rfl, by decide +kernel, by decide +kernel⟩
  obtain ⟨xfS, ecS⟩ := excB_ok (all_at xx 6 rfl)
  obtain ⟨xfBB, ecB⟩ := excB_ok (all_at xx 7 rfl)
  have nS := He.eqO_ok (all_at xx 8 rfl)
  have nB := He.eqO_ok (all_at xx 9 rfl)
  have ER : Er K mg (He.ga K "BadStart") (He.ga K "BadSteps") (He.ga K "WorksError") (He.ga K "TooMany") := {
    gS := gl (x := "BadStart") (by decide +kernel)
    gB := gl (x := "BadSteps") (by decide +kernel)
    gW := gl (x := "WorksError") (by decide +kernel)
    gT := gl (x := "TooMany") (by decide +kernel)
    gV := fr (x := "ValueError") (by decide +kernel)
    xS := xfS
    xB := xfBB
    nS := nS
    nB := nB
    eS := ecS
    eB := ecB
    mSS := of_decide_eq_true (all_at xx 10 rfl)
    mBS := of_decide_eq_true (all_at xx 11 rfl)
    mBB := of_decide_eq_true (all_at xx 12 rfl)
    kSW := of_decide_eq_true (all_at xx 13 rfl)
    kSB := of_decide_eq_true (all_at xx 14 rfl)
    kBW := of_decide_eq_true (all_at xx 15 rfl)
    kBV := of_decide_eq_true (all_at xx 16 rfl)
    kBT := of_decide_eq_true (all_at xx 17 rfl) }
  refine ⟨fd0, fun s v => D0.bindsA (ps := ["_law_script"]) (fun _ _ _ _ _ _ us hl => match us, hl with | [_], _ => rfl) s [v] rfl, fun base _ _ => ?_⟩
  have X_S : ExR Pr w K mg base 1 "BadStart" (He.ga K "BadStart") "value" := ⟨dS.T, ⟨_, fdS, "value", findS, typS, fn_exc (k := 0) (msg := "the start is not a state") tS dS rfl nS (by decide +kernel) (by decide +kernel) (fun env => ⟨_, rfl⟩) (fun env => rfl), dS.binds fun _ _ _ _ _ us hl => match us, hl with | [_, _], _ => rfl⟩, ER.gS⟩
  have X_B : ExR Pr w K mg base 1 "BadSteps" (He.ga K "BadSteps") "at" := ⟨dB.T, ⟨_, fdB, "at", findB, typB, fn_exc (k := 0) (msg := "the steps, or the one at this index, are not as they must be") tB dB rfl nB (by decide +kernel) (by decide +kernel) (fun env => ⟨_, rfl⟩) (fun env => rfl), dB.binds fun _ _ _ _ _ us hl => match us, hl with | [_, _], _ => rfl⟩, ER.gB⟩
  have c_int := okg_is_integer (P := Pr) (w := w) (base := base) G E22
  have c_row := okg_is_row (P := Pr) (w := w) (base := base) G E21
  have c_rowof := okg_is_row_of (P := Pr) (w := w) (base := base) G E20 c_row
  have c_name := okg_is_name (P := Pr) (w := w) (base := base) G i1 E19
  have c_state := okg_is_state (P := Pr) (w := w) (base := base) G i2 E18 c_int
  have c_step := okg_is_step (P := Pr) (w := w) (base := base) G E16 c_state c_name
  have c_many := ok_is_one_too_many (P := Pr) (w := w) (base := base) G i4 E15
  have c_check := okg_check_steps (P := Pr) (w := w) (base := base) G i3 E17 X_B c_rowof c_step c_many
  have F_init := okg_init (P := Pr) (w := w) (base := base) G T D23 X_S c_state c_check
  have b_init : Binds K fd23 ["self", "start", "steps"] [] := D23.bindsN fun _ _ _ _ _ _ us hl => match us, hl with | [_, _, _], _ => rfl
  have c_pool := ok_pool (P := Pr) (w := w) (base := base) G E14
  have c_draw := ok_draw (P := Pr) (w := w) (base := base) G E13
  have c_pick := ok_pick (P := Pr) (w := w) (base := base) G E12 c_draw
  have c_nm := ok_name (P := Pr) (w := w) (base := base) G E11 c_draw
  have c_nms := ok_names (P := Pr) (w := w) (base := base) G E10 c_nm
  have l_whole := okl_whole (P := Pr) (w := w) (base := base) G E6
  have l_state := okl_is_state (P := Pr) (w := w) (base := base) G E5 l_whole
  have l_name := okl_is_name (P := Pr) (w := w) (base := base) G E4
  have l_step := okl_is_step (P := Pr) (w := w) (base := base) G E3 l_state l_name
  have l_due := okl_due (P := Pr) (w := w) (base := base) G E2 l_state l_step
  have l_told := okg_told (P := Pr) (w := w) (base := base) G ER E1 mk F_init b_init T.at_
  have l_row := okl_row (P := Pr) (w := w) (base := base) G E9 c_draw c_pick c_nms
  have l_odd := okl_odd (P := Pr) (w := w) (base := base) G E8 c_draw c_pick
  have l_spoilt := okl_spoilt (P := Pr) (w := w) (base := base) G E7 c_draw c_pick l_step l_odd
  have O : Ops Pr w K mg base (He.ga K "Hand") (He.ga K "BadStart") (He.ga K "BadSteps") := {
    mkh := ⟨_, fd23, mk, F_init, b_init⟩
    words := ⟨_, _, fd26, propB_ok (all_at xx 3 rfl), ok_words G T D26, D26.bindsN fun _ _ _ _ _ _ us hl => match us, hl with | [_], _ => rfl⟩
    steps := ⟨_, _, fd25, propB_ok (all_at xx 2 rfl), ok_steps T D25, D25.bindsN fun _ _ _ _ _ _ us hl => match us, hl with | [_], _ => rfl⟩
    start := ⟨_, _, fd24, propB_ok (all_at xx 1 rfl), ok_start T D24, D24.bindsN fun _ _ _ _ _ _ us hl => match us, hl with | [_], _ => rfl⟩ }
  exact fn_none (okl_law G E0 T O c_pool c_draw l_row l_spoilt l_due l_told) fun _ _ _ _ z => z
end WK
open PySem PySem.W PySem.Calls PyProof.Rows
theorem PySem.Challenge.cw_watchedworks_k00_hands_told_and_refused_holds : PySem.Challenge.rw_watchedworks_k00_hands_told_and_refused.Holds := by
  w_on; o_law
  refine HandSHeadRun.head_any (r := OpenLaw.row PySem.Challenge.rw_watchedworks_k00_hands_told_and_refused) (q := view (OpenLaw.row PySem.Challenge.rw_watchedworks_k00_hands_told_and_refused).prog [35]) (H := WK.hk) (ob := WK.ob) (M := 6000) (loose := WK.loose) (d := HandSHeadRun.topDef (OpenLaw.row PySem.Challenge.rw_watchedworks_k00_hands_told_and_refused).prog 35) (kwd := []) WK.ob_eq
    (by kernel_rfl) (fun s => by kernel_rfl) WK.run (by kernel_rfl) (by kernel_rfl) (by kernel_rfl) (by rfl) (by first | assumption | decide +kernel) (by decide +kernel) ⟨rfl, rfl, rfl, rfl, rfl, by decide +kernel⟩ ?hw ?hc
  case hw => w_witness2
  case hc =>
    refine L2.walk_ofE (l := PySem.Challenge.rw_watchedworks_k00_hands_told_and_refused) (n := 63) (k := 8) (x := "_law_script") (CX := WW.CXn) rfl (by decide) (by kernel_rfl) ⟨rfl, by decide, by decide⟩ ?F (fun _ _ _ _ z => z)
    intro w mg fa h Y G hmg0
    obtain ⟨K, KX, c⟩ := Y
    have hmg : mg ("law" : PySem.Str) = some (.ref fa) := by
      have e : (HandSHeadRun.topDef (OpenLaw.row PySem.Challenge.rw_watchedworks_k00_hands_told_and_refused).prog 35).name = ("law" : PySem.Str) := by kernel_rfl
      rw [← e]
      exact hmg0
    obtain ⟨fd, hb, hF⟩ := WK.facts (w := w) KX G hmg c
    exact ⟨K, fd, WK.spLaw K, KX, hb, fun H a ns hl _ hS => ⟨a, ns, rfl, hS, fun _ => rfl⟩, hF⟩
