import PyProof.Rows.All
import Wide.All
import OpenK.AllK
import Wide.FinOn
import PyProof.EqAt
import PyProof.EqKinds
import PyProof.TupleCall
import KE.SortData
import HandS.Base
import HandS.Call
import HandS.List
import HandS.Comp
import HandS.Ends
import HandS.Set
import HandS.SetBool
import PyProof.InstEq
import PyProof.InstNe
import PyProof.TupleOfSeq
import PyProof.P3In
import KE.GoesEnum
import HandS.Iter
import HandS.Deep
import HandS.Evl
import HandS.More
import HandS.IsInst
import HandS.TupAny
import HandS.Words
import KE.KStateDown
import HandS.WordsExc
import HandS.Defaults
import HandS.Property
import HandS.Head0
import HandS.Head1
import HandS.Head2
import HandS.HeadEnd
import HandS.HeadHook1
import HandS.HeadHook2
import HandS.HeadNt
import HandS.Style
import HandS.Text
import HandS.WordsList
import PySem.Challenge.RW_watchedworks_k01_hands_are_equal
set_option Elab.async false
set_option linter.all false
set_option maxRecDepth 100000
set_option maxHeartbeats 4000000
/-! Rules of our own over the layer: callees by name, sorted lists of data -/
namespace WW
open PySem PySem.Spec PyProof.Rows L2

/-- nothing is wished of exceptions -/
abbrev CXn : CXT := fun _ _ _ _ _ _ => False
abbrev En : XK := fun _ _ _ => False
theorem passN {X : Cx} {E : XK} : Passes CXn X E := fun _ _ _ _ _ _ _ h => h.elim

/-- a def of the module's, found by its name, with what it promises -/
structure Callee (P : Program) (w : World) (K : PySem.W.Frag) (mg : Str → Option Value) (base : Heap) (CX : CXT) (k : Nat) (x : Str) (n : Nat) (sp : Sp) : Prop where
  ex : ∃ (f : Addr) (fd : FuncData) (ps : List Str), ps.length = n ∧ FnOk P w K mg base CX k f fd ps sp ∧ mg x = some (.ref f) ∧ PySem.W.keepIn K (.ref f) = true ∧ Binds K fd ps []

section
variable {X : Cx} {CX : CXT} {k n : Nat} {sp : Sp} {E : XK} {x : Str} {p pos : Pos} {e : Expr} {es : List Expr} {t : TA}
theorem pe_cl (c : Callee X.prog X.w X.K X.mg X.base CX k x n sp) (hr : Room k X.A) (hg : Gl X x) (hx : Passes CX X E) (ha : PA X (e :: es) t)
    (hdb : (x == ("__debug__" : Str)) = false := by decide) (he : starEach (e :: es) X.env = (false, eval e X.env) :: starEach es X.env := by rfl) (hpl : (backTo pos (starEach es X.env)).any (·.1) = false := by rfl) :
    PE X (.Call (.Name x p) (e :: es) [] pos) (tCall sp [] E t) := by
  obtain ⟨f, fd, ps, _, F, hm, hk, hb⟩ := c.ex
  exact pe_call F hr hg hm hk hb .nil hx ha hdb he hpl
end

/-! ### sorted of lists of data -/
/-- v stands for the datum of b -/
abbrev DpE {β : Type} (K : PySem.W.Frag) (H : Hp) (enc : β → PyData) (v : V) (b : β) : Prop := Dp K H v (enc b)

def rSortD {β : Type} (K : PySem.W.Frag) (enc : β → PyData) : List V → Hp → VK → Prop := fun vs H Q => ∃ (a : Addr) (xs : List V) (bs : List β) (F : V → β → Prop), vs = [V.ref a] ∧ SqL K H a xs ∧ Paired (fun v b => F v b ∧ DpE K H enc v b) xs bs ∧
  (∀ b b', PySem.W.alike (enc b) (enc b') = true) ∧ PySem.W.Sortable (bs.map enc) ∧ (∀ b, (enc b).depth ≤ 32) ∧
  ∀ (ys : List V) (p : Addr), Paired F ys (bs.mergeSort (PySem.W.dataLe false enc)) → H p = none → Q (.ref p) (upd H p (.lst ys))


theorem each_of {β : Type} {K : PySem.W.Frag} {H : Hp} {enc : β → PyData} {F : V → β → Prop} : ∀ {xs : List V} {us : List Value} {bs : List β}, Vals xs us → Paired (fun v b => F v b ∧ DpE K H enc v b) xs bs →
    PySem.W.EachIs (fun u b => ∃ v, F v b ∧ RelV v u ∧ Dp K H v (enc b)) us bs
  | _, _, _, .nil, .nil => .nil
  | _, _, _, .cons r t, .cons d e => .cons ⟨_, d.1, r, d.2⟩ (each_of t e)
theorem of_each {β : Type} {F : V → β → Prop} {G : Value → β → Prop} (h : ∀ u b, G u b → ∃ v, RelV v u ∧ F v b) : ∀ {us : List Value} {bs : List β}, PySem.W.EachIs G us bs → ∃ ys, Vals ys us ∧ Paired F ys bs
  | _, _, .nil => ⟨[], .nil, .nil⟩
  | _, _, .cons g t => by
    obtain ⟨v, r, f⟩ := h _ _ g
    obtain ⟨ys, a, b⟩ := of_each h t
    exact ⟨v :: ys, .cons r a, .cons f b⟩
theorem each_reads {β : Type} {X : Cx} {pins : List (Addr × Obj)} {σ : L2.St} {H : Hp} {s : Shared} {enc : β → PyData} (I : Inv X pins σ H s) : ∀ {us : List Value} {bs : List β} {F : V → β → Prop}, PySem.W.EachIs (fun u b => ∃ v, F v b ∧ RelV v u ∧ Dp X.K H v (enc b)) us bs →
    PySem.W.EachIs (fun u b => ∃ as, Reads s.heap u (enc b) as) us bs
  | _, _, _, .nil => .nil
  | _, _, _, .cons ⟨v, _, r, d⟩ t => .cons (Dp.reads I _ _ _ d r) (each_reads I t)

theorem cr_sortD {X : Cx} {β : Type} (enc : β → PyData) (hu : X.A.units + 64 < cLine) : CallR X (.builtin "sorted") (rSortD X.K enc) := by
  intro pins s σ H vs us Q I r h
  obtain ⟨a, xs, bs, F, rfl, hs, hp, hal, hso, hdp, q⟩ := h
  obtain ⟨its, rv, hl, hz⟩ := I.list hs
  rw [Vals.ref1 r]
  have hlen : bs.length = xs.length := (Paired.length hp).symm
  have e1 := each_of rv hp
  refine PySem.W.sorted_data hl.isList e1 (each_reads I e1) (PySem.W.AllAlike.of hal) hso (by omega) (fun b _ => by have := hdp b; omega) fun out ho eo => ?_
  obtain ⟨ep, he'⟩ := PyProof.Rows.sortedAll_at s.heap its out.toArray
  obtain ⟨ys, rys, pys⟩ := of_each (F := F) (fun u b ⟨v, m, r, d⟩ => ⟨v, r, m⟩) eo
  have hly : ys.length ≤ sizeLine := by rw [rys.length, ho, hlen]; exact hz
  exact ⟨.ref _, upd H (s.heap.objs.size + 1) (.lst ys), I.laid (t' := s.toks) (fun _ _ => PyProof.Rows.sortedAll_old) (Nat.le_succ _) ⟨hly, out, ep, rys, he'⟩, rfl, q ys _ pys (I.hok.fresh (Nat.le_succ _))⟩
end WW

set_option Elab.async false
set_option linter.all false
set_option maxRecDepth 100000
set_option maxHeartbeats 4000000
/-! Sets of scannable keys that can be walked: made, filled, sorted. -/
namespace WW
open PySem PySem.Spec PyProof.Rows L2

section
variable {P : Program} {w : World} {κ : Type} [DecidableEq κ]
def EnK (knd : PySem.KeyKind P w κ) (k : κ) (e : Int × Value) : Prop := knd.is k e.2 = true ∧ e.1 = knd.hash k ∧ e.2.scannable = true
/-- ks: the keys that the set holds, in its table's order -/
def SetW (knd : PySem.KeyKind P w κ) (h : Heap) (a : Addr) (ks : List κ) : Prop :=
  ∃ o es ep t, h.get? a = some o ∧ o.ExactSet ∧ o.data = .set es ep t ∧ ks.Nodup ∧ Paired (EnK knd) ks es.toList ∧
    es.size < scanBound ∧ t.fits es.size = true ∧ Ris t.place.toList ∧ (w.params.followText "set-order" = true ∨ t.led = true)
variable {knd : PySem.KeyKind P w κ} {h h' : Heap} {a : Addr} {ks : List κ}

theorem SetW.here (R : SetW knd h a ks) (k : ∀ o, h.get? a = some o → h'.get? a = some o) : SetW knd h' a ks := by
  obtain ⟨o, es, ep, t, ho, r⟩ := R
  exact ⟨o, es, ep, t, k o ho, r⟩
theorem en_mem {l : List (Int × Value)} : ∀ {ks : List κ}, Paired (EnK knd) ks l → ∀ e ∈ l, ∃ k ∈ ks, EnK knd k e
  | _, .nil, e, he => by cases he
  | _, .cons g t, e, he => by
    rcases List.mem_cons.mp he with rfl | he
    · exact ⟨_, List.mem_cons_self, g⟩
    · obtain ⟨k, hk, q⟩ := en_mem t e he
      exact ⟨k, List.mem_cons_of_mem _ hk, q⟩
theorem en_of : ∀ {ks : List κ} {l : List (Int × Value)}, Paired (EnK knd) ks l → ∀ k ∈ ks, ∃ e ∈ l, EnK knd k e
  | _, _, .nil, k, hk => by cases hk
  | _, _, .cons g t, k, hk => by
    rcases List.mem_cons.mp hk with rfl | hk
    · exact ⟨_, List.mem_cons_self, g⟩
    · obtain ⟨e, he, q⟩ := en_of t k hk
      exact ⟨e, List.mem_cons_of_mem _ he, q⟩
theorem en_elems {l : List (Int × Value)} (g : Paired (EnK knd) ks l) : PySem.ElemsOf knd l := fun e he => by
  obtain ⟨k, _, q⟩ := en_mem g e he
  exact ⟨⟨k, q.1, q.2.1⟩, q.2.2⟩
/-- the keys follow the entries into any order -/
theorem en_perm {l : List (Int × Value)} (g : Paired (EnK knd) ks l) {l' : List (Int × Value)} (p : l'.Perm l) : ∃ ks', ks'.Perm ks ∧ Paired (EnK knd) ks' l' := by
  induction p generalizing ks with
  | nil => exact ⟨ks, List.Perm.refl _, g⟩
  | cons x _ ih =>
    cases g with
    | @cons k _ kr _ g1 g2 =>
      obtain ⟨ks', p', g'⟩ := ih g2
      exact ⟨k :: ks', p'.cons k, .cons g1 g'⟩
  | swap x y l =>
    cases g with
    | @cons k _ kr _ g1 g2 =>
      cases g2 with
      | @cons k2 _ kr2 _ g3 g4 => exact ⟨k2 :: k :: kr2, List.Perm.swap _ _ _, .cons g3 (.cons g1 g4)⟩
  | trans _ _ ih1 ih2 =>
    obtain ⟨k2, p2, g2⟩ := ih2 g
    obtain ⟨k1, p1, g1⟩ := ih1 g2
    exact ⟨k1, p1.trans p2, g1⟩
theorem en_app {l : List (Int × Value)} (g : Paired (EnK knd) ks l) {k : κ} {e : Int × Value} (q : EnK knd k e) : Paired (EnK knd) (ks ++ [k]) (l ++ [e]) := by
  induction g with
  | nil => exact .cons q .nil
  | cons g1 _ ih => exact .cons g1 ih
end

section
variable {P : Program} {w : World} {κ : Type} [DecidableEq κ] {knd : PySem.KeyKind P w κ} {A : Around} {E : Value → Shared → Prop} {s : Shared} {a : Addr} {ks : List κ}

theorem put_at {h : Heap} {o : Obj} {es es' : Array (Int × Value)} {ep : Nat} {t t' : SetTable} (ho : h.get? a = some o) (hd : o.data = .set es ep t) :
    (h.update a (Obj.putSet es' t')).get? a = some { o with data := .set es' (ep + 1) t' } := PpSet.storeB_at ho hd

/-- the end of an addition: stored, and laid anew where it is too full -/
theorem setw_tail {gv : Bool → Sem Unit} (hg : ∀ (b : Bool) (s1 : Shared) (Q' : Unit → Shared → Prop), Q' () s1 → wpAny (model P w) A (gv b) Q' E s1)
    {o : Obj} {es : Array (Int × Value)} {ep : Nat} {t : SetTable} (ho : s.heap.get? a = some o) (hex : o.ExactSet) (hd : o.data = .set es ep t)
    {es1 : Array (Int × Value)} {t2 : SetTable} {k1 : List κ} (nd1 : k1.Nodup) (g1 : Paired (EnK knd) k1 es1.toList)
    (hb1 : es1.size < scanBound) (hf2 : t2.fits es1.size = true) (hr : Ris t2.place.toList) (hl : w.params.followText "set-order" = true ∨ t2.led = true) {wd : Bool} {R : Option Bool → Shared → Prop}
    (hR : ∀ h' k2, k2.Perm k1 → Heap.SameBut a s.heap h' → SetW knd h' a k2 → R (some true) { s with heap := h' }) :
    wpAny (model P w) A (do
        storeSet a es1 t2
        if (!wd && t2.tooFull) = true then do
            gv (relayAll t2 es1 (SetTable.grown es1.size)).2.2
            storeSet a (relayAll t2 es1 (SetTable.grown es1.size)).1 (relayAll t2 es1 (SetTable.grown es1.size)).2.1
            pure (some true)
          else pure (some true)) R E s := by
  refine wpAny_bind (wpAny_storeSet_of ho hd ?_ (fits_of_scanBound hb1))
  have hput := put_at (es' := es1) (t' := t2) ho hd
  have same1 := Heap.SameBut.update s.heap a (Obj.putSet es1 t2)
  split
  · have pm := relayAll_perm t2 es1 (SetTable.grown es1.size)
    have f3 := relayAll_fits t2 es1 (SetTable.grown es1.size)
    have r3 := relayAll_ris t2 es1 (SetTable.grown es1.size)
    have l3 := relayAll_led t2 es1 (SetTable.grown es1.size)
    revert pm f3 r3 l3
    rcases relayAll t2 es1 (SetTable.grown es1.size) with ⟨es2, t3, gave⟩
    intro pm f3 r3 l3
    dsimp only at pm f3 r3 l3 ⊢
    have size2 : es2.size = es1.size := by rw [← Array.length_toList, pm.length_eq, Array.length_toList]
    have small2 : es2.size < scanBound := by rw [size2]; exact hb1
    obtain ⟨k2, pk, g2⟩ := en_perm g1 pm
    refine wpAny_bind (hg _ _ _ ?_)
    refine wpAny_bind (wpAny_storeSet_of hput rfl ?_ (fits_of_scanBound small2))
    refine wpAny_pure (hR _ k2 pk (same1.trans (Heap.SameBut.update _ a _)) ?_)
    exact ⟨_, es2, _, t3, put_at hput rfl, hex, rfl, pk.nodup_iff.mpr nd1, g2, small2, f3, r3, hl.imp id fun z => by rw [l3]; exact z⟩
  · exact wpAny_pure (hR _ k1 (List.Perm.refl _) same1 ⟨_, es1, _, t2, hput, hex, rfl, nd1, g1, hb1, hf2, hr, hl⟩)

/-- what an addition leaves -/
def Added (ks : List κ) (k : κ) (ks' : List κ) : Prop := (k ∈ ks ∧ ks' = ks) ∨ (k ∉ ks ∧ ks'.Perm (k :: ks))
theorem setw_addHashed {k : κ} {v : Value} {Q : Bool → Shared → Prop} (hk : knd.is k v = true) (hv : v.scannable = true) (R : SetW knd s.heap a ks) (room : ks.length + 1 < scanBound)
    (hQ : ∀ b h' ks', Heap.SameBut a s.heap h' → SetW knd h' a ks' → Added ks k ks' → Q b { s with heap := h' }) :
    wpAny (model P w) A (setAddHashed a v (knd.hash k)) Q E s := by
  have R0 := R
  obtain ⟨o, es, ep, t, ho, hex, hd, nd, g, hb, hf, hr, hl⟩ := R
  have hel := en_elems g
  have hlen : es.size = ks.length := by rw [← Array.length_toList]; exact (Paired.length g).symm
  unfold setAddHashed setAddHashedIn
  refine wpAny_holding (wpAny_bind (wpAny_setState_of ho hd hf ?_))
  dsimp only
  rw [byScan_of hv hb hel]
  simp only [↓reduceIte]
  unfold setAddByScan
  refine wpAny_bind (wpAny_bind (wpAny_rule ?_))
  refine wpAny_bind (wpAny_setScan_of hk ho hd hf hel ?_)
  cases hfi : List.findIdx? (fun e => knd.is k e.2) es.toList with
  | some j =>
    dsimp only
    obtain ⟨hj, pj, _⟩ := List.findIdx?_eq_some_iff_getElem.mp hfi
    obtain ⟨k0, m0, q0⟩ := en_mem g _ (List.getElem_mem hj)
    have e0 : k0 = k := knd.inj _ _ _ q0.1 pj
    exact wpAny_pure (wpAny_pure (hQ false s.heap ks (Heap.SameBut.refl a s.heap) R0 (.inl ⟨e0 ▸ m0, rfl⟩)))
  | none =>
    dsimp only
    have hnk : k ∉ ks := fun z => by
      obtain ⟨e, he, q⟩ := en_of g k z
      have c := List.findIdx?_eq_none_iff.mp hfi e he
      rw [q.1] at c
      cases c
    have hgw : ∀ (b : Bool) (s1 : Shared) (Q' : Unit → Shared → Prop), Q' () s1 → wpAny (model P w) A (match b with | true => rule "set.scan.the-table-gave-way" | false => pure ()) Q' E s1 := by
      intro b s1 Q' q
      cases b
      · exact wpAny_pure q
      · exact wpAny_rule q
    have pm := layNew_perm t es (knd.hash k) v
    have f1 := layNew_fits t es (knd.hash k) v
    have r1 := layNew_ris t es (knd.hash k) v hr
    have l1 := layNew_led t es (knd.hash k) v
    revert pm f1 r1 l1
    rcases layNew t es (knd.hash k) v with ⟨es1, t1, wd, gave⟩
    intro pm f1 r1 l1
    dsimp only at pm f1 r1 l1 ⊢
    rw [Array.toList_push] at pm
    obtain ⟨k1, pk, g1⟩ := en_perm (en_app g ⟨hk, rfl, hv⟩) pm
    have pk' : k1.Perm (k :: ks) := pk.trans (List.perm_append_singleton _ _)
    have nd1 : k1.Nodup := pk'.nodup_iff.mpr (List.nodup_cons.mpr ⟨hnk, nd⟩)
    have hb1 : es1.size < scanBound := by
      rw [← Array.length_toList, ← Paired.length g1, pk'.length_eq, List.length_cons]
      exact room
    have led1 : w.params.followText "set-order" = true ∨ t1.led = true := hl.imp id fun z => by rw [l1]; exact z
    have fin : ∀ (b : Bool) h' k2, k2.Perm k1 → Heap.SameBut a s.heap h' → SetW knd h' a k2 → Q b { s with heap := h' } := fun b h' k2 p2 sb r => hQ b h' k2 sb r (.inr ⟨hnk, p2.trans pk'⟩)
    refine wpAny_bind (hgw _ _ _ ?_)
    split
    · refine wpAny_bind ?_
      rw [hashByValue_scannable 8 hv]
      refine wpAny_pure ?_
      refine setw_tail hgw ho hex hd nd1 g1 hb1 ?_ ?_ ?_ ?_
      · split <;> first | exact f1 | exact SetTable.fits_plain_off f1
      · split <;> exact r1
      · split <;> exact led1
      · intro h' k2 p2 sb r; dsimp only; exact wpAny_pure (fin _ h' k2 p2 sb r)
    · refine wpAny_bind (wpAny_pure ?_)
      simp only [↓reduceIte]
      refine setw_tail hgw ho hex hd nd1 g1 hb1 f1 r1 led1 ?_
      intro h' k2 p2 sb r; dsimp only; exact wpAny_pure (fin _ h' k2 p2 sb r)

/-- found.add(k) -/
theorem setw_add {k : κ} {v : Value} {Q : Value → Shared → Prop} (hk : knd.is k v = true) (hv : v.scannable = true) (R : SetW knd s.heap a ks) (room : ks.length + 1 < scanBound)
    (hQ : ∀ h' tk ks', Heap.SameBut a s.heap h' → SetW knd h' a ks' → Added ks k ks' → Q .none { s with heap := h', toks := tk }) :
    wpAny (model P w) A (call (.builtin "set.add") [.ref a, v]) Q E s := by
  have hT : s.TypeIs (.ref a) "set" := by
    obtain ⟨o, es, ep, t, ho, hex, _⟩ := R
    exact ⟨o, ho, hex.1⟩
  refine wpAny_call_entry F.slot_set_add hT F.entry_set_add ?_ (F.args_set_add_2 _ _)
  unfold Builtin.«set.add» Builtin.Frozenset.oneOther
  simp only [List.isEmpty_nil, bind_assoc]
  unfold Builtin.Frozenset.addrOf setAdd
  refine wpAny_bind (wpAny_pure ?_)
  try dsimp only
  refine wpAny_bind (wpAny_pure ?_)
  try dsimp only
  refine wpAny_bind ?_
  refine wpAny_holding ?_
  refine wpAny_bind (knd.pyHash hk ?_)
  refine setw_addHashed (s := { s with toks := s.toks + 1 }) hk hv R room fun b h' ks' sb r ad => ?_
  show wpAny _ _ (ret Value.none) _ _ _
  exact wpAny_pure ⟨_, rfl, hQ h' (s.toks + 1) ks' sb r ad⟩
theorem setw_fresh {h : Heap} : SetW knd (h.push { cls := .type "set", dict := none, data := .set #[] 0 (.fresh 0 0 (!w.params.followText "set-order")) }) h.objs.size [] :=
  ⟨_, #[], 0, _, Heap.get?_push_size _ rfl, ⟨rfl, rfl, rfl⟩, rfl, List.nodup_nil, .nil, (by decide), (by rfl), List.Pairwise.nil, by
    show _ ∨ (!w.params.followText "set-order") = true
    cases w.params.followText "set-order"
    · exact .inr rfl
    · exact .inl rfl⟩
end
end WW

set_option Elab.async false
set_option linter.all false
set_option maxRecDepth 100000
set_option maxHeartbeats 4000000
/-! Sets of texts as tracked things; sorted of one; {text for ..}; set(list of texts). -/
namespace WW
open PySem PySem.Spec PyProof.Rows L2

def leS (a b : Str) : Bool := decide (a.cps.toList ≤ b.cps.toList)
/-- the texts, ascending -/
def sortS (ks : List Str) : List Str := ks.mergeSort leS

/-- a set of texts -/
def SSO (P : Program) (w : World) (a : Addr) (ks : List Str) : HO := .ext fun h => SetW (PySem.strKind P w) h a ks
theorem sso_new {P : Program} {w : World} {H : Hp} {h : Heap} {a : Addr} {ks : List Str} (R : SetW (PySem.strKind P w) h a ks) : ObjOk P w H h a (SSO P w a ks) := by
  have ⟨o, _, _, _, ho, _⟩ := R
  exact ⟨R, ⟨o, ho⟩, fun h1 h2 p k => SetW.here p k⟩
section
variable {X : Cx}
theorem sso_get {pins : List (Addr × Obj)} {σ : L2.St} {H : Hp} {s : Shared} {a : Addr} {ks : List Str} (I : Inv X pins σ H s) (ha : H a = some (SSO X.prog X.w a ks)) : SetW (PySem.strKind X.prog X.w) s.heap a ks := (I.hok a _ ha).1

theorem setw_vals {P : Program} {w : World} {ks : List Str} {l : List (Int × Value)} (g : Paired (EnK (PySem.strKind P w)) ks l) : StrsAre (l.map (·.2)) ks := by
  induction g with
  | nil => exact .nil
  | @cons k e ks l q _ ih =>
    obtain ⟨t, et⟩ := Value.isStrOf_shape (x := k) (v := e.2) q.1
    show StrsAre (e.2 :: l.map (·.2)) (k :: ks)
    rw [et]
    exact .cons k t ih
theorem strs_perm {us vs : List Value} {ks : List Str} (h : StrsAre vs ks) (p : us.Perm vs) : ∃ ks', ks'.Perm ks ∧ StrsAre us ks' := by
  induction p generalizing ks with
  | nil => exact ⟨ks, List.Perm.refl _, h⟩
  | cons x _ ih =>
    cases h with
    | cons k t h2 =>
      obtain ⟨k2, p2, g2⟩ := ih h2
      exact ⟨k :: k2, p2.cons k, .cons k t g2⟩
  | swap x y l =>
    cases h with
    | cons k t h2 =>
      cases h2 with
      | cons k2 t2 h3 => exact ⟨_, List.Perm.swap _ _ _, .cons k2 t2 (.cons k t h3)⟩
  | trans _ _ ih1 ih2 =>
    obtain ⟨k2, p2, g2⟩ := ih2 h
    obtain ⟨k1, p1, g1⟩ := ih1 g2
    exact ⟨k1, p1.trans p2, g1⟩
theorem leS_trans (a b c : Str) (h1 : leS a b = true) (h2 : leS b c = true) : leS a c = true := by
  unfold leS at *
  exact decide_eq_true (Std.le_trans (of_decide_eq_true h1) (of_decide_eq_true h2))
theorem leS_total (a b : Str) : (leS a b || leS b a) = true := by
  unfold leS
  rcases Std.le_total (a := a.cps.toList) (b := b.cps.toList) with h | h
  · rw [decide_eq_true h, Bool.true_or]
  · rw [decide_eq_true h, Bool.or_true]
theorem str_ext {a b : Str} (h : a.cps.toList = b.cps.toList) : a = b := by
  cases a; cases b
  exact congrArg Str.mk (Array.ext' h)
theorem leS_anti (a b : Str) (h1 : leS a b = true) (h2 : leS b a = true) : a = b := by
  unfold leS at *
  exact str_ext (Std.le_antisymm (of_decide_eq_true h1) (of_decide_eq_true h2))
theorem sortS_sorted (ks : List Str) : (sortS ks).Pairwise (fun a b => leS a b = true) := List.pairwise_mergeSort leS_trans leS_total ks
theorem sortS_perm (ks : List Str) : (sortS ks).Perm ks := List.mergeSort_perm ks leS
/-- the ascending list depends on the members alone -/
theorem sortS_congr {ks ls : List Str} (p : ks.Perm ls) : sortS ks = sortS ls :=
  List.Perm.eq_of_pairwise (fun a b _ _ => leS_anti a b) (sortS_sorted ks) (sortS_sorted ls) (((sortS_perm ks).trans p).trans (sortS_perm ls).symm)
theorem sortS_mem {ks : List Str} {x : Str} : x ∈ sortS ks ↔ x ∈ ks := (sortS_perm ks).mem_iff
theorem sortS_len (ks : List Str) : (sortS ks).length = ks.length := (sortS_perm ks).length_eq

theorem strsAre_each : ∀ {vs : List Value} {ks : List Str}, StrsAre vs ks → PySem.W.EachIs (fun v (k : Str) => ∃ t, v = Value.str k t) vs ks
  | _, _, .nil => .nil
  | _, _, .cons k t h => .cons ⟨t, rfl⟩ (strsAre_each h)
theorem each_strsAre : ∀ {vs : List Value} {ks : List Str}, PySem.W.EachIs (fun v (k : Str) => ∃ t, v = Value.str k t) vs ks → StrsAre vs ks
  | _, _, .nil => .nil
  | _, _, .cons ⟨t, e⟩ h => by subst e; exact .cons _ t (each_strsAre h)
theorem le_str_eq : PySem.W.dataLe false PyData.str = leS := PySem.W.dataLe_str (fun k => k)

def rSortSS (P : Program) (w : World) : List V → Hp → VK → Prop := fun vs H Q => ∃ (a : Addr) (ks : List Str), vs = [V.ref a] ∧ H a = some (SSO P w a ks) ∧
  ∀ p, H p = none → Q (.ref p) (upd H p (.lst ((sortS ks).map V.str)))
theorem cr_sortSS (hc : X.calm = true) (hu : X.A.units + 64 < cLine) : CallR X (.builtin "sorted") (rSortSS X.prog X.w) := by
  intro pins s σ H vs us Q I r h
  obtain ⟨a, ks, rfl, ha, q⟩ := h
  rw [Vals.ref1 r]
  obtain ⟨o, es, ep, t, ho, hex, hd, nd, g, hb, hf, hr, hl⟩ := sso_get I ha
  refine Calls.call_function_entry kind_sorted plain_sorted entry_sorted (args_sorted1 _) ?_
  unfold Builtin.«sorted»
  refine wpAny_bind (m := checkCount "sorted" 1 1 _) (wpAny_pure ?_)
  refine wpAny_bind (collect_set (A := X.A.in1) (I.ok.hd hc) ⟨o, ho, hex.1, hd⟩ hf hb hr hl fun s1 out k1 z1 g1 o1 pm => ?_)
  obtain ⟨k2, pk, sa⟩ := strs_perm (setw_vals g) pm
  have hlen : out.length = ks.length := by rw [sa.length, pk.length_eq]
  have hk0 : ks.length = es.size := by rw [Paired.length g, Array.length_toList]
  have hz : out.length ≤ sizeLine := by rw [hlen, hk0]; exact fits_of_scanBound hb
  have I1 : Inv X pins σ H s1 := I.call' (ch := []) o1 (Un.kept k1) (I.hok.kept k1) (by rw [g1]; exact I.bare) (fun _ z => nomatch z)
  refine wpAny_bind (wpAny_newList ?_ hz)
  have hoL : (s1.heap.push (seqObj "list" out.toArray 0)).get? s1.heap.objs.size = some (seqObj "list" out.toArray 0) := Heap.get?_push_size _ rfl
  have ee := strsAre_each sa
  refine wpAny_bind (wpAny_holding (PySem.W.list_sort_data (enc := PyData.str) (s := { s1 with heap := s1.heap.push (seqObj "list" out.toArray 0) }) hoL ee (ee.mono fun v k ⟨t, e⟩ => ⟨[], by subst e; exact ⟨Reads.str k t, by simp⟩⟩) (PySem.W.AllAlike.of fun b b' => by simp [PySem.W.alike])
    (PySem.W.Sortable.others fun b => ⟨by simp, by simp⟩) (by rw [pk.length_eq, ← hlen]; exact hz) (fun b _ => by show X.A.units + 1 + 1 + 0 < cLine; omega) fun out2 h2 e2 => ?_))
  have en : k2.mergeSort (PySem.W.dataLe false PyData.str) = sortS ks := by
    rw [le_str_eq]
    exact sortS_congr pk
  rw [en] at e2
  obtain ⟨c, hc2⟩ := sortedHeap_at (vs := out) (out := out2.toArray) hoL
  have hold : ∀ b u, s1.heap.get? b = some u → (sortedHeap (s1.heap.push (seqObj "list" out.toArray 0)) s1.heap.objs.size out out2.toArray).get? b = some u := fun b u e => by
    have lt := Heap.lt_size e
    exact (sortedHeap_old (Nat.ne_of_lt lt) (by rw [Heap.size_push]; exact Nat.lt_succ_of_lt lt)).trans (Heap.get?_push_of_some _ e)
  have sa2 := each_strsAre e2
  refine wpAny_pure ⟨_, rfl, .ref s1.heap.objs.size, upd H s1.heap.objs.size (.lst ((sortS ks).map V.str)), I1.laid (t' := s1.toks) hold (Nat.le_refl _) ⟨?_, out2, c, vals_of_strs sa2, hc2⟩, rfl, q _ (I1.hok.fresh (Nat.le_refl _))⟩
  rw [List.length_map, sortS_len, ← hlen]
  exact hz
end
end WW

set_option Elab.async false
set_option linter.all false
set_option maxRecDepth 100000
set_option maxHeartbeats 4000000
/-! {e for x in ..}: whatever the set holds. -/
namespace WW
open PySem PySem.Spec PyProof.Rows L2

/-- what set.add does to the tracked set at D: y is put in, N is what then holds of the heap -/
abbrev AddT := V → Addr → Hp → (Hp → Prop) → Prop
/-- a set's making and filling, for any body -/
structure SetMk (P : Program) (w : World) (new : Addr → HO) (add : AddT) : Prop where
  laid : ∀ (H : Hp) (h : Heap), ObjOk P w H (h.push { cls := .type "set", dict := none, data := .set #[] 0 (.fresh 0 0 (!w.params.followText "set-order")) }) h.objs.size (new h.objs.size)
  put : ∀ (X : Cx), X.prog = P → X.w = w → ∀ (pins : List (Addr × Obj)) (σ : L2.St) (H : Hp) (s : Shared) (D : Addr) (y : V) (v : Value) (N : Hp → Prop) (Q : Value → Shared → Prop) (E : Value → Shared → Prop), Inv X pins σ H s → RelV y v → add y D H N →
    (∀ s' H', Inv X pins σ H' s' → N H' → Q .none s') → wpAny (model P w) X.A (call (.builtin "set.add") [.ref D, v]) Q E s

def tSet (new : Addr → HO) (add : AddT) (wi : TI) (g : TG) (tt : TT) (te : TE) (vs : List Nat) : TE := fun σ H Q => wi σ H fun J H1 => ∀ D, H1 D = none →
  ∃ W : Nat → Nat → Hp → Prop, (∃ m, W 0 m (upd H1 D (new D))) ∧ ∀ i m H2, W i m H2 → (J.stop i H2 ∧ Q (.ref D) H2) ∨
    (J.go i H2 ∧ ∃ Nx : Hp → Prop, (∀ H', Nx H' → ∃ m', m' < m ∧ W (i + 1) m' H') ∧ ∀ x H', J.yld i H2 x H' → g x (wipe σ vs) H' fun σ3 H3 => wipe σ3 vs = wipe σ vs ∧
      tt σ3 H3 fun b H4 => if b = true then te σ3 H4 fun y H5 => add y D H5 Nx else Nx H4)

section
variable {X : Cx}
theorem set_core {new : Addr → HO} {add : AddT} {pins : List (Addr × Obj)} {s : Shared} {σ : L2.St} {H : Hp} {Q : VK} {elt tg iter : Expr} {ifs : List Expr} {scope : Scope} {own : List (PySem.Str × Nat)} {pos pos' : Pos} {wi : TI} {g : TG} {tt : TT} {te : TE}
    {use : Option (Value → Sem Unit)} {Qf : Value → Shared → Prop} (M : SetMk X.prog X.w new add) (calm : X.calm = true) (nd : X.N.Nodup) (I : Inv X pins σ H s) (walk : PI X tg iter wi) (blk : BlkOk X.N X.env.scope scope own)
    (hg : ∀ (s : Shared) (H : Hp) (C : Addr) (cl : List (PySem.Str × Addr)) (fp : List Addr), PG (X.blk s H scope (compEnvC scope cl C X.env) fp) tg g)
    (ht : ∀ (s : Shared) (H : Hp) (C : Addr) (cl : List (PySem.Str × Addr)) (fp : List Addr), PTs (X.blk s H scope (compEnvC scope cl C X.env) fp) ifs tt)
    (he : ∀ (s : Shared) (H : Hp) (C : Addr) (cl : List (PySem.Str × Addr)) (fp : List Addr), PE (X.blk s H scope (compEnvC scope cl C X.env) fp) elt te)
    (plain : ∀ x, foldedSetIterable iter X.env x = pure x) (h : tSet new add wi g tt te (own.map (·.2)) σ H Q)
    (back : ∀ D C s' m H', Inv X pins σ H' s' → Q (.ref D) H' → s'.heap.Ns C m → FpOk X pins H' C → compPost (model X.prog X.w) X.A X.xe use Qf (.ref D) C (.ok .next) s') :
    wpAny (model X.prog X.w) X.A (comprehension (.SetComp elt [⟨tg, iter, ifs, 0⟩] scope pos) scope X.env pos' (newSet (.type "set")) false (eval iter X.env) use) Qf X.xe s := by
  have cellsThere : ∀ y ∈ scope.names, y.2 = .free → ∃ c, X.env.cells.lookup y.1 = some c := fun y my fy =>
    (blk.free y my fy).elim (fun k => I.ok.has _ (.inl k)) fun k => I.ok.has _ (.inr k)
  refine wpAny_comprehension_free (use := use) rfl plain (closure_ok cellsThere) blk.kind (fun y my ey => by rw [blk.uniq y my, ey]) (thn (walk.run pins s σ H _ I h) fun v1 s1 h1 => thn h1 fun v2 s2 h2 => ?_)
  obtain ⟨it, fp, tn, J, H2, rfl, I2, T, start2, free2, rest⟩ := h2
  refine PpSet.newSet_ok (newEnv_comp ?_)
  have fresh2 : H2 s2.heap.objs.size = none := I2.hok.fresh (Nat.le_refl _)
  obtain ⟨W, ⟨m0, w0⟩, turn⟩ := rest s2.heap.objs.size fresh2
  -- the state with the empty set
  have I3 : Inv X pins σ (upd H2 s2.heap.objs.size (new s2.heap.objs.size)) { s2 with heap := s2.heap.push { cls := .type "set", dict := none, data := .set #[] 0 (.fresh 0 0 (!X.w.params.followText "set-order")) } } :=
    I2.laid (t' := s2.toks) (fun _ _ e => Heap.get?_push_of_some _ e) (Nat.le_refl _) (M.laid _ _)
  have below : ∀ b ∈ fp, b < s2.heap.objs.size := fun b hb => let ⟨_, e, _⟩ := T.obj _ _ start2 b hb; Heap.lt_size e
  generalize hD : s2.heap.objs.size = D at w0 turn fresh2 I3 below ⊢
  generalize hs3 : ({ s2 with heap := s2.heap.push { cls := .type "set", dict := none, data := .set #[] 0 (.fresh 0 0 (!X.w.params.followText "set-order")) } } : Shared) = s3 at I3
  have grown : s3.heap = s2.heap.push { cls := .type "set", dict := none, data := .set #[] 0 (.fresh 0 0 (!X.w.params.followText "set-order")) } := by rw [← hs3]
  generalize hH3 : upd H2 D (new D) = H3 at I3 w0
  have free3 : ∀ b ∈ fp, FpOk X pins H3 b ∧ b < s3.heap.objs.size := fun b hb => by
    have lt := below b hb
    refine ⟨⟨?_, (free2 b hb).2⟩, by rw [grown, Heap.size_push, hD]; exact Nat.lt_succ_of_lt lt⟩
    rw [← hH3, upd_ne (Nat.ne_of_lt lt)]
    exact (free2 b hb).1
  have start3 : tn 0 s3.heap := T.keep _ _ _ start2 fun b _ o e => by rw [grown]; exact Heap.get?_push_of_some _ e
  have I4 := block_start I3 blk nd free3
  have ruleG := hg s3 H3 s3.heap.objs.size (cellsFrom (s3.heap.objs.size + 1) scope.names (cloFrom X.env.cells scope.names [])) fp
  have ruleT := ht s3 H3 s3.heap.objs.size (cellsFrom (s3.heap.objs.size + 1) scope.names (cloFrom X.env.cells scope.names [])) fp
  have ruleE := he s3 H3 s3.heap.objs.size (cellsFrom (s3.heap.objs.size + 1) scope.names (cloFrom X.env.cells scope.names [])) fp
  show codeAny _ _ (.compStart (.SetComp elt [⟨tg, iter, ifs, 0⟩] scope pos) 0 (.ref it) (.ref D) (compEnvC scope (cellsFrom (s3.heap.objs.size + 1) scope.names (cloFrom X.env.cells scope.names [])) s3.heap.objs.size X.env))
    (compPost (model X.prog X.w) X.A X.xe use Qf (.ref D) s3.heap.objs.size) { s3 with heap := pushCells (s3.heap.push { cls := .type "dict", data := .dict #[] }) scope.names }
  generalize hce : compEnvC scope (cellsFrom (s3.heap.objs.size + 1) scope.names (cloFrom X.env.cells scope.names [])) s3.heap.objs.size X.env = ce at I4 ruleG ruleT ruleE ⊢
  have frame : ce.locals = s3.heap.objs.size := by rw [← hce] <;> rfl
  generalize hs4 : ({ s3 with heap := pushCells (s3.heap.push { cls := .type "dict", data := .dict #[] }) scope.names } : Shared) = s4 at I4 ⊢
  have start4 : tn 0 s4.heap := T.keep _ _ _ start3 fun b _ o e => by rw [← hs4]; exact pushCells_keeps _ _ _ _ (Heap.get?_push_of_some _ e)
  have quiet : ∀ {σ' : L2.St} {H' : Hp} {s' : Shared}, Inv (X.blk s3 H3 scope ce fp) [] σ' H' s' → (∀ b ∈ fp, H' b = none) → ∀ b ∈ fp, FpOk (X.blk s3 H3 scope ce fp) [] H' b := fun {σ' H' s'} I' n b hb =>
    ⟨n b hb, (I'.ok.exf b hb).1, I'.ok.exfs b hb, .inl hb, (I'.ok.exf b hb).2, fun p hp => absurd (show p ∈ ([] : List (Addr × Obj)) ++ [] from hp) (by simp)⟩
  have loop : codeAny (model X.prog X.w) X.A (.compLoop (.SetComp elt [⟨tg, iter, ifs, 0⟩] scope pos) 0 (.ref it) (.ref D) ce) (compPost (model X.prog X.w) X.A X.xe use Qf (.ref D) s3.heap.objs.size) s4 := by
    refine PpSet.compLoopS_any (fun n s' => ∃ i H', Inv (X.blk s3 H3 scope ce fp) [] (wipe σ (own.map (·.2))) H' s' ∧ tn i s'.heap ∧ (∀ b ∈ fp, H' b = none) ∧ W i n H') ?_ m0 ⟨0, H3, I4, start4, fun b hb => (free3 b hb).1.1, w0⟩
    rintro n s5 ⟨i, H5, I5, at5, none5, w5⟩
    rcases turn i n H5 w5 with ⟨stop, fin⟩ | ⟨go, Nx, hNx, step⟩
    · refine thnF (T.done (X.blk s3 H3 scope ce fp) rfl rfl rfl calm i [] s5 _ H5 (fun _ _ => False) I5 (quiet I5 none5) at5 stop) fun r s6 ⟨er, I6⟩ => ?_
      subst er
      have I7 : Inv X pins σ H5 s6 := I3.call' (ch := fp) I6.os I6.base I6.hok I6.bare fun b hb => ⟨(free3 b hb).1.2.2.2.1, (free3 b hb).1.2.1, (free3 b hb).1.2.2.2.2.1, (free3 b hb).1.2.2.2.2.2⟩
      have nC : H5 s3.heap.objs.size = none := frame ▸ (I6.free : H5 ce.locals = none)
      obtain ⟨m, hn, _⟩ := I6.loc
      have hn' : s6.heap.Ns s3.heap.objs.size m := frame ▸ (hn : s6.heap.Ns ce.locals m)
      exact back D s3.heap.objs.size s6 m H5 I7 fin hn' (I3.fpOk (Nat.le_refl _) nC)
    · refine thnF (T.item (X.blk s3 H3 scope ce fp) rfl rfl rfl calm i [] s5 _ H5 (fun _ _ => False) I5 (quiet I5 none5) at5 go) fun r s6 ⟨u, er, h6⟩ => ?_
      subst er
      refine thnF h6 fun _ s7 ⟨x, H7, I7, r7, y7, at7, none7⟩ => ?_
      refine thnF (ruleG.run _ s7 _ H7 x u _ (I7.pinned (quiet I7 none7) (T.obj _ _ at7)) r7 (step x H7 y7)) fun _ s8 ⟨σ8, H8, I8, wiped, q8⟩ => ?_
      refine thnF (ruleT.run _ s8 σ8 H8 _ I8 q8) fun b s9 ⟨H9, I9, q9⟩ => ?_
      have next : ∀ {s' : Shared} {H' : Hp}, Inv (X.blk s3 H3 scope ce fp) ([] ++ pinsAt fp s7.heap) σ8 H' s' → Nx H' → ∃ m, m < n ∧ ∃ i H', Inv (X.blk s3 H3 scope ce fp) [] (wipe σ (own.map (·.2))) H' s' ∧ tn i s'.heap ∧ (∀ b ∈ fp, H' b = none) ∧ W i m H' := fun {s' H'} I' nx => by
        obtain ⟨m', less, w'⟩ := hNx H' nx
        have pinned : ∀ b ∈ fp, ∀ o, s7.heap.get? b = some o → s'.heap.get? b = some o ∧ H' b = none := fun b hb o e =>
          let z := I'.pin (b, o) (List.mem_append_right _ (List.mem_append_right _ (mem_pinsAt hb e)))
          ⟨z.1, z.2.1⟩
        have len8 : (wipe σ (own.map (·.2))).length = σ8.length := by rw [← wiped, wipe_length]
        refine ⟨m', less, i + 1, H', (I'.unpinned (pins := [])).weak len8 (fun j v e => ?_), T.keep _ _ _ at7 fun b hb o e => (pinned b hb o e).1, fun b hb => ?_, w'⟩
        · rw [← wiped] at e
          exact (wipe_some e).1
        · obtain ⟨o, e, _⟩ := T.obj _ _ at7 b hb
          exact (pinned b hb o e).2
      cases b with
      | false =>
        rw [if_neg Bool.false_ne_true] at q9 ⊢
        exact next I9 q9
      | true =>
        rw [if_pos rfl] at q9 ⊢
        refine thnF (ruleE.run _ s9 σ8 H9 _ I9 q9) fun z s10 ⟨yv, H10, I10, r10, put⟩ => ?_
        exact M.put (X.blk s3 H3 scope ce fp) rfl rfl _ σ8 H10 s10 D yv z Nx _ _ I10 r10 put fun s11 H11 I11 nx => next I11 nx
  exact PpSet.codeAny_compStart_set loop (T.self X.A 0 _ _ _ start4 loop)

theorem pe_set {new : Addr → HO} {add : AddT} {elt tg iter : Expr} {ifs : List Expr} {scope : Scope} {own : List (PySem.Str × Nat)} {pos : Pos} {wi : TI} {g : TG} {tt : TT} {te : TE} (M : SetMk X.prog X.w new add) (calm : X.calm = true) (nd : X.N.Nodup) (walk : PI X tg iter wi) (blk : BlkOk X.N X.env.scope scope own)
    (hg : ∀ (s : Shared) (H : Hp) (C : Addr) (cl : List (PySem.Str × Addr)) (fp : List Addr), PG (X.blk s H scope (compEnvC scope cl C X.env) fp) tg g)
    (ht : ∀ (s : Shared) (H : Hp) (C : Addr) (cl : List (PySem.Str × Addr)) (fp : List Addr), PTs (X.blk s H scope (compEnvC scope cl C X.env) fp) ifs tt)
    (he : ∀ (s : Shared) (H : Hp) (C : Addr) (cl : List (PySem.Str × Addr)) (fp : List Addr), PE (X.blk s H scope (compEnvC scope cl C X.env) fp) elt te)
    (plain : ∀ x, foldedSetIterable iter X.env x = pure x := by intro _; rfl) :
    PE X (.SetComp elt [⟨tg, iter, ifs, 0⟩] scope pos) (tSet new add wi g tt te (own.map (·.2))) := by
  refine ⟨fun pins s σ H Q I h => ?_⟩
  rw [PpSet.eval_SetComp]
  refine set_core M calm nd I walk blk hg ht he plain h fun D C s' m H' I' q hn free => ⟨m, hn, fun h'' sb => ?_⟩
  obtain ⟨f0, f1, f2, f3, f4, f5⟩ := free
  exact ⟨.ref D, H', I'.turned (t' := s'.toks) (fun b o hb e => (sb.2 b hb).trans e) f0 f1 f3 f4 f5, rfl, q⟩
end

/-- texts put in: whatever order the table takes -/
def addS (P : Program) (w : World) : AddT := fun y D H N => ∃ (c : Str) (ks : List Str), y = .str c ∧ H D = some (SSO P w D ks) ∧ ks.length + 1 < scanBound ∧ ∀ ks', Added ks c ks' → N (upd H D (SSO P w D ks'))
theorem mkS (P : Program) (w : World) : SetMk P w (fun D => SSO P w D []) (addS P w) where
  laid := fun H h => sso_new setw_fresh
  put := fun X hP hw pins σ H s D y v N Q E I r ⟨c, ks, ey, hD, room, k⟩ fin => by
    subst hP hw ey
    obtain ⟨t, ev⟩ := r
    subst ev
    refine setw_add (knd := PySem.strKind X.prog X.w) (k := c) (by show Value.isStrOf c (.str c t) = true; simp [Value.isStrOf]) rfl (sso_get I hD) room fun h' tk ks' sb new ad => ?_
    have there : ∃ u, h'.get? D = some u := let ⟨o, _, _, _, ho, _⟩ := new; ⟨o, ho⟩
    exact fin _ _ (I.write (e := D) (t' := tk) (by rw [hD]; trivial) (.inl rfl) (fun b u hb hu => (sb.2 b hb).trans hu) there (sso_new new)) (k ks' ad)
end WW

set_option Elab.async false
set_option linter.all false
set_option maxRecDepth 100000
set_option maxHeartbeats 4000000
/-! x == y and x != y by a class's own __eq__, whatever it answers. -/
namespace WW
open PySem PySem.Spec PyProof.Rows L2

theorem cmpOf {P : Value → Shared → Prop} {z : V} {v : Value} {s' : Shared} (r : RelV z v) (h : P v s') : PySem.W.CmpBack P v s' := by
  cases z <;> (try obtain ⟨t, e⟩ := r) <;> first | exact h | (subst e; exact h) | (cases r; exact h)

/-- x op y of two instances, answered by the def sp -/
def rOwnEq (K : PySem.W.Frag) (C : Addr) (sp : Sp) (E : XK) : R2 := fun x y H Q => ∃ a dx fs b C' dy gs, x = .ref a ∧ y = .ref b ∧ H a = some (.ins C dx fs) ∧ H b = some (.ins C' dy gs) ∧ PySem.W.notFirst K C (.ref C') = true ∧ sp [x, y] H Q E
def rOwnNe (K : PySem.W.Frag) (C : Addr) (sp : Sp) (E : XK) : R2 := fun x y H Q => ∃ a dx fs b C' dy gs, x = .ref a ∧ y = .ref b ∧ H a = some (.ins C dx fs) ∧ H b = some (.ins C' dy gs) ∧ PySem.W.notFirst K C (.ref C') = true ∧
  sp [x, y] H (fun v H' => ∃ k, v = .bl k ∧ Q (.bl (!k)) H') E

section
variable {X : Cx} {CX : CXT} {C f : Addr} {fd : FuncData} {ps : List Str} {sp : Sp} {E : XK} {n : Nat}
theorem op_ownEq (hs : PySem.W.findIn X.K (.ref C) "__eq__" = some (some (.ref f))) (hf : PySem.W.isFn X.K (.ref f) = true) (F : FnOk X.prog X.w X.K X.mg X.base CX n f fd ps sp) (hr : Room n X.A) (hb : Binds X.K fd ps []) (hx : Passes CX X E) :
    OpR X (compareOp .Eq) (rOwnEq X.K C sp E) := by
  intro pins s σ H x y v u Q I rx ry h
  obtain ⟨a, dx, fs, b, C', dy, gs, rfl, rfl, ha, hb', hn, q⟩ := h
  cases rx
  cases ry
  obtain ⟨mA, J, _⟩ := ins_get I.hok ha
  obtain ⟨mB, J', _⟩ := ins_get I.hok hb'
  obtain ⟨od, J, _⟩ := J.look
  obtain ⟨od', J', _⟩ := J'.look
  obtain ⟨m, hF⟩ := I.fr
  show wpAny (model X.prog X.w) X.A (richCompare .Eq (.ref a) (.ref b)) (EP X pins σ Q) X.xe s
  refine PySem.W.cmp_K (op := .Eq) (tb := .ref C') hr.units0 hF I.ok.mod.kin J J'.type hn hs hf ?_
  refine wpAny_mono (run_fn (us := [.ref a, .ref b]) (vs := [.ref a, .ref b]) F hr hb .nil hx I (.cons rfl (.cons rfl .nil)) q) (fun w s' z => ?_) fun _ _ e => e
  obtain ⟨z', H', I', rz, qz⟩ := z
  exact cmpOf rz ⟨z', H', I', rz, qz⟩

/-- the class's __ne__ is object's -/
theorem ne_bound {M : Model} {A : Around} {E' : Value → Shared → Prop} {s : Shared} {K : PySem.W.Frag} {x : Addr} {ox : Obj} {od : Option Obj} {args : List Value} {Q : Option Value → Shared → Prop} (Xk : K.In s.heap) (J : PySem.W.InstAt s.heap x ox C od)
    (hne : PySem.W.findIn K (.ref C) "__ne__" = some (some (.builtin "object.__ne__"))) (h : wpAny M A (call (.builtin "object.__ne__") (.ref x :: args)) (fun v => Q (some v)) E' s) : wpAny M A (callSpecialIfBound? (.ref x) "__ne__" args) Q E' s := by
  simp only [callSpecialIfBound?, bindSpecialIfBound?]
  refine wpAny_holding (wpAny_bind (wpAny_bind (wpAny_bind (J.type.here ((PySem.W.looks_findIn Xk hne).here ?_)))))
  refine wpAny_bind (wpAny_askSetting (wpAny_ite ?_))
  have last : wpAny M A (call (.builtin "object.__ne__") ([.ref x] ++ args) >>= fun v => pure (some v)) Q E' s := wpAny_bind (wpAny_mono h (fun v s' q => wpAny_pure q) fun _ _ q => q)
  split
  · exact wpAny_bind (wpAny_of_eq (PySem.F.cmp_object.ne.bind _) (wpAny_pure (by exact last)))
  · exact wpAny_tryCatch (wpAny_bind (wpAny_of_eq (PySem.F.cmp_object.ne.bind _) (wpAny_pure (by exact last))))

theorem op_ownNe (hs : PySem.W.findIn X.K (.ref C) "__eq__" = some (some (.ref f))) (hne : PySem.W.findIn X.K (.ref C) "__ne__" = some (some (.builtin "object.__ne__"))) (hm : PySem.W.mroIn X.K C (.type "object") = some true) (hf : PySem.W.isFn X.K (.ref f) = true)
    (F : FnOk X.prog X.w X.K X.mg X.base CX n f fd ps sp) (hr : Room (n + 1) X.A) (hb : Binds X.K fd ps []) (hx : Passes CX X E) : OpR X (compareOp .NotEq) (rOwnNe X.K C sp E) := by
  intro pins s σ H x y v u Q I rx ry h
  obtain ⟨a, dx, fs, b, C', dy, gs, rfl, rfl, ha, hb', hn, q⟩ := h
  cases rx
  cases ry
  obtain ⟨mA, J, _⟩ := ins_get I.hok ha
  obtain ⟨mB, J', _⟩ := ins_get I.hok hb'
  obtain ⟨od, J, _⟩ := J.look
  obtain ⟨od', J', _⟩ := J'.look
  have hu : X.A.units + 64 < cLine := hr.units
  -- the def, a level down
  have deep : wpAny (model X.prog X.w) X.A.in1 (call (.ref f) [.ref a, .ref b]) (fun w s' => ∃ k, w = .bool k ∧ EP X pins σ Q (.bool (!k)) s') X.xe s := by
    have hl := F.len _ _ _ _ q
    have bd : BindsTo s fd ⟨[.ref a, .ref b], []⟩ (ps.zip [.ref a, .ref b]) := by
      have z := hb s [.ref a, .ref b] I.kIn (by simpa using hl)
      simpa using z
    refine wpAny_call (codeAny_mono (F.run X.A.in1 X.stack s H ⟨[.ref a, .ref b], []⟩ [.ref a, .ref b] [.ref a, .ref b] _ E hr.in1 I.env0.in1 bd (.cons rfl (.cons rfl .nil)) q) fun r s' hq => ?_)
    cases r with
    | error e => exact hx pins σ H s e s' I hq
    | ok fl =>
      cases fl with
      | ret w =>
        obtain ⟨z, H', I', rz, k, ez, qz⟩ := I.after hq
        subst ez
        cases rz
        exact ⟨k, rfl, .bl (!k), H', I', rfl, qz⟩
      | next => exact False.elim hq
      | brk => exact False.elim hq
      | cont => exact False.elim hq
  have entry : wpAny (model X.prog X.w) X.A.in1 (Builtin.«object.__ne__» ⟨[.ref a, .ref b], []⟩) (fun fin s' => match fin with | .done g => (match g with | .ret w => (∃ k, w = .bool k ∧ EP X pins σ Q (.bool k) s') | _ => False) | .again _ => False) X.xe s := by
    unfold Builtin.«object.__ne__»
    refine wpAny_bind (wpAny_pure ?_)
    refine wpAny_bind (wpAny_cRoomFor (by show X.A.units + 1 < cLine; omega) ?_)
    refine wpAny_bind (PySem.W.ifBound_K I.kIn J hs hf (wpAny_mono deep (fun w s' z => ?_) fun _ _ e => e))
    obtain ⟨k, rfl, hq⟩ := z
    exact wpAny_bind (wpAny_truthy_bool (wpAny_pure ⟨_, rfl, hq⟩))
  have tried : wpAny (model X.prog X.w) X.A (tryCompare (.ref a) "__ne__" (.ref b)) (fun r s' => ∃ w, r = some w ∧ EP X pins σ Q w s') X.xe s := by
    unfold tryCompare
    refine wpAny_bind (ne_bound I.kIn J hne (wpAny_call (codeAny_call_builtin PySem.F.cmp_object.ne.plain PySem.F.cmpEntry_ne (PySem.W.check_slot PySem.F.cmpKind_ne PySem.F.cmpSplit_ne (J.type.andThen (PySem.W.looks_mroIn I.kIn hm)) (PySem.F.cmpArgs_ne _ _)
      (wpAny_mono entry (fun fin s' z => ?_) fun _ _ e => e)))))
    cases fin with
    | again _ => exact z.elim
    | done g =>
      cases g with
      | ret w =>
        obtain ⟨k, rfl, hq⟩ := z
        exact wpAny_pure ⟨_, rfl, hq⟩
      | next => exact z.elim
      | brk => exact z.elim
      | cont => exact z.elim
  show wpAny (model X.prog X.w) X.A (richCompare .NotEq (.ref a) (.ref b)) (EP X pins σ Q) X.xe s
  unfold richCompare
  simp only [oneThing_ref]
  refine wpAny_holding (wpAny_bind (wpAny_cRoomFor hr.units0 ?_))
  rw [PySem.cmpInfo_NotEq]
  dsimp only
  refine wpAny_bind (J.type.here (wpAny_bind (J'.type.here ?_)))
  split
  · rename_i ne
    have e : PySem.W.subIn X.K (.ref C') (.ref C) = some false := by
      rcases Bool.or_eq_true_iff.mp hn with e | e
      · rw [beq_iff_eq.mp e] at ne; simp at ne
      · exact beq_iff_eq.mp e
    refine wpAny_bind ((PySem.W.looks_subIn I.kIn e).here ?_)
    simp only [Bool.false_eq_true, if_false]
    refine wpAny_bind (wpAny_mono tried (fun r s' z => ?_) fun _ _ e => e)
    obtain ⟨w, rfl, hq⟩ := z
    exact wpAny_pure hq
  · refine wpAny_bind (wpAny_pure ?_)
    simp only [Bool.false_eq_true, if_false]
    refine wpAny_bind (wpAny_mono tried (fun r s' z => ?_) fun _ _ e => e)
    obtain ⟨w, rfl, hq⟩ := z
    exact wpAny_pure hq
end
end WW

set_option Elab.async false
set_option linter.all false
set_option maxRecDepth 100000
set_option maxHeartbeats 4000000
/-! A list or a tuple alike: either reading; enumerate, in and sorted of tuples. -/
namespace WW
open PySem PySem.Spec PyProof.Rows L2

/-! ### either reading -/
theorem pe_or {X : Cx} {e : Expr} {t u : TE} (a : PE X e t) (b : PE X e u) : PE X e (fun σ H Q => t σ H Q ∨ u σ H Q) :=
  ⟨fun pins s σ H Q I h => h.elim (a.run pins s σ H Q I) (b.run pins s σ H Q I)⟩
def iOr (a b : TI) : TI := fun σ H R => a σ H R ∨ b σ H R
theorem pi_or {X : Cx} {tg e : Expr} {t u : TI} (a : PI X tg e t) (b : PI X tg e u) : PI X tg e (iOr t u) :=
  ⟨fun pins s σ H Q I h => h.elim (a.run pins s σ H Q I) (b.run pins s σ H Q I)⟩
def rOr3 (a b : List V → Hp → VK → Prop) : List V → Hp → VK → Prop := fun vs H Q => a vs H Q ∨ b vs H Q
theorem cr_or {X : Cx} {f : Value} {r u : List V → Hp → VK → Prop} (a : CallR X f r) (b : CallR X f u) : CallR X f (rOr3 r u) :=
  fun pins s σ H vs us Q I rv h => h.elim (a pins s σ H vs us Q I rv) (b pins s σ H vs us Q I rv)

/-! ### x in a tuple, of data of any kind -/
section
variable {X : Cx}
def rInDT (K : PySem.W.Frag) : R2 := fun x y H Q => ∃ d ds, Dp K H x d ∧ Dp K H y (.tuple ds) ∧ SeqAt.shaped d = true ∧ SeqAt.shaped (.tuple ds) = true ∧ Q (.bl (ds.any fun z => PyData.eqv z d)) H
theorem op_inDT (hu : X.A.units + 65 < cLine) : OpR X (compareOp .In) (rInDT X.K) := by
  intro pins s σ H x y v u Q I rx ry h
  obtain ⟨d, ds, hd, he, sd, se, q⟩ := h
  obtain ⟨as, r1⟩ := Dp.reads I d x v hd rx
  obtain ⟨bs, r2⟩ := Dp.reads I (.tuple ds) y u he ry
  exact SeqAt.in_tuple_reads r2 r1 (SeqAt.canLay_of_shaped se) (SeqAt.canLay_of_shaped sd) (room_in_shaped sd hu) ⟨.bl _, H, I, rfl, q⟩
end

/-! ### enumerate(tuple) -/
section
variable {prog : Program} {w : World} {A : Around} {E : Value → Shared → Prop} {s : Shared}
set_option maxHeartbeats 1000000 in
theorem meets_enum1 {v : Value} {o : Obj} {H : Heap → Prop} (B : Begins v o H) :
    Meets (Builtin.«enumerate.__new__» ⟨[.type "enumerate", v], []⟩) (fun _ R s => H s.heap ∧
      R (.ok (.ret (.ref (s.heap.push o).objs.size))) { s with heap := (s.heap.push o).push { cls := .type "enumerate", data := .fields #[.none, .bool false, .ref s.heap.objs.size, rawInt 0, .none, .none] } }) :=
  .of_wp fun prog w A R s h => by
    obtain ⟨hp, g, d, tk, os⟩ := s; obtain ⟨h1, h⟩ := h
    have hsub := sub_enumerate
    have q1 : ∀ {A' : Around} {E : Value → Shared → Prop} {Q : Value → Shared → Prop}, Q (.ref hp.objs.size) ⟨hp.push o, g, d, tk, os⟩ → wpAny (model prog w) A' (pyIter v) Q E ⟨hp, g, d, tk, os⟩ :=
      fun q => B.iter prog w _ _ ⟨hp, g, d, tk, os⟩ _ h1 q
    wp_walk using q1
    refine wpAny_stack_any fun st => wpAny_pure ?_
    split
    · rename_i c _ _ _ _ _
      cases (c == Value.type "enumerate")
      · wp_walk using q1
        exact ⟨_, rfl, h⟩
      · wp_walk using q1
        exact ⟨_, rfl, h⟩
    · wp_walk using q1
      exact ⟨_, rfl, h⟩
theorem enum1_begins {v : Value} {o : Obj} {H : Heap → Prop} {Q : Value → Shared → Prop} (B : Begins v o H) (h1 : H s.heap)
    (h : ∀ h', IsEnum h' (s.heap.objs.size + 1) s.heap.objs.size 0 .none → h'.get? s.heap.objs.size = some o → h'.objs.size = s.heap.objs.size + 2 →
      (∀ b o, s.heap.get? b = some o → h'.get? b = some o) → Q (.ref (s.heap.objs.size + 1)) { s with heap := h' }) :
    wpAny (model prog w) A (call (.type "enumerate") [v]) Q E s := by
  refine callType_new F.called_enumerate (by decide) (F.typeCall_enumerate_1 _) (F.newCall_enumerate_1 _) (fun obj => F.args_object_init_2 obj _) F.entry_enumerate_new
    (meets_enum1 B) ⟨h1, ?_⟩
  have hz : (s.heap.push o).objs.size = s.heap.objs.size + 1 := Heap.size_push ..
  show _ ∧ _
  rw [hz]
  have he : IsEnum ((s.heap.push o).push { cls := .type "enumerate", data := .fields #[.none, .bool false, .ref s.heap.objs.size, rawInt 0, .none, .none] }) (s.heap.objs.size + 1) s.heap.objs.size 0 .none := by
    have := Heap.get?_push_size (s.heap.push o) (o := { cls := .type "enumerate", data := .fields #[.none, .bool false, .ref s.heap.objs.size, rawInt 0, .none, .none] }) rfl
    rw [hz] at this; exact this
  refine ⟨⟨_, he, rfl⟩, h _ he (Heap.get?_push_of_some _ (Heap.get?_push_size _ B.free)) (by rw [Heap.size_push, hz]) fun b o x => Heap.get?_push_of_some _ (Heap.get?_push_of_some _ x)⟩
end

/-- the tuple at a, each item in a new pair -/
def IteT (K : PySem.W.Frag) (a : Addr) : It :=
  ⟨fun i H => ∃ (xs : List V) (x : V), SqT K H a xs ∧ xs[i]? = some x, fun i H v H' => ∃ T x, v = .ref T ∧ H T = none ∧ H' = upd H T (.tup [.int (i : Nat), x]) ∧ ∀ xs, SqT K H a xs → xs[i]? = some x, fun i H => ∃ xs : List V, SqT K H a xs ∧ xs.length = i⟩
theorem turn_enumT {P : Program} {w : World} {K : PySem.W.Frag} {elts : List Expr} {kk : Nat} {tpos : Pos} (a e it : Addr) :
    Turn P w K (.Tuple elts kk tpos) (IteT K a) [e, it] e (fun i h => (∃ old, IsEnum h e it ((i : Nat) : Int) old) ∧ h.IsTupleIter it a i ∧ e ≠ it) where
  mem := by simp
  obj := fun i h st b hb => by
    obtain ⟨⟨old, he⟩, ⟨o, ho, hc, hd⟩, _⟩ := st
    have e' : b = e ∨ b = it := by simpa using hb
    rcases e' with z | z
    · rw [z]; exact ⟨_, he, fun v q => nomatch q⟩
    · rw [z]; exact ⟨o, ho, fun v q => by rw [hd] at q; cases q⟩
  keep := fun i h h' st k => let ⟨⟨old, he⟩, hi, hne⟩ := st; ⟨⟨old, k e (by simp) _ he⟩, hi.at fun o q => k it (by simp) o q, hne⟩
  item := by
    intro X hP hw hK hc i pins s σ H E I hf st hg
    subst hP hw hK
    obtain ⟨⟨old, he⟩, hit, hne⟩ := st
    obtain ⟨xs, x, hq, hx⟩ := hg
    obtain ⟨its, rv, p, hz⟩ := I.tuple hq
    have p' : s.heap.IsTuple a its.toArray := p
    obtain ⟨u, hu, ru⟩ := rv.get hx
    have hel : e < s.heap.objs.size := Heap.lt_size he
    have hil : it < s.heap.objs.size := by obtain ⟨_, q, _⟩ := hit; exact Heap.lt_size q
    have hai : a ≠ it := fun z => by
      obtain ⟨o, ho, hc1, _⟩ := hit
      obtain ⟨o', ho', hc2, _⟩ := p'
      rw [z, ho] at ho'
      cases ho'
      rw [hc1] at hc2
      injection hc2 with hc2
      exact absurd hc2 (by decide)
    have hae : e ∉ [it, a] := fun z => by
      rcases List.mem_cons.mp z with z | z
      · exact hne z
      · have z := List.mem_singleton.mp z
        obtain ⟨o', ho', hc2, _⟩ := p'
        rw [← z, he] at ho'
        cases ho'
        injection hc2 with hc2
        exact absurd hc2 (by decide)
    have hil2 : i < its.toArray.size := by
      have := (List.getElem?_eq_some_iff.mp hu).1
      simpa using this
    refine wpAny_pyNext_enum_itemC (fp := [it, a]) (c := (i : Int)) (Draws.tuple (A := X.A.in1) (I.ok.hd hc) it a hai its.toArray) he ⟨hit, p'⟩ hil2 hne hae fun y h' tk hy ho hit' hT hsz hk => ?_
    have ey : y = u := by
      have e1 : its[i]? = some y := by simpa using hy
      rw [hu] at e1
      exact (Option.some.inj e1).symm
    subst ey
    refine ⟨_, rfl, wpAny_letOwnedTupleGo_enum (s := { s with heap := h', toks := tk + 1 }) ho fun h'' he' sb => ?_⟩
    have hT2 : h''.get? s.heap.objs.size = some { cls := .type "tuple", data := .seq #[.int i tk, y] } := (sb.2 _ (Nat.ne_of_gt hel)).trans hT
    have new : ObjOk X.prog X.w (upd H s.heap.objs.size (.tup [.int (i : Nat), x])) h'' s.heap.objs.size (.tup [.int (i : Nat), x]) :=
      ⟨by show 2 ≤ sizeLine; decide, [.int i tk, y], .cons ⟨_, rfl⟩ (.cons ru .nil), ⟨_, hT2, rfl, _, rfl⟩⟩
    have I1 : Inv X pins σ (upd H s.heap.objs.size (.tup [.int (i : Nat), x])) { s with heap := h'', toks := tk + 1 } :=
      I.turnedNew (ch := [e, it]) (fun b ob hb q => (sb.2 b (fun z => hb (by simp [z]))).trans (hk b ob (fun z => hb (by simp [z])) (fun z => hb (by simp [z])) q)) hf (Nat.le_refl _) new
    refine ⟨.ref s.heap.objs.size, _, I1, rfl, ⟨_, x, rfl, I.hok.fresh (Nat.le_refl _), rfl, fun ys hy => by rw [I.tuple_inj hy hq]; exact hx⟩, ⟨⟨y, ?_⟩, hit'.1.at fun o q => (sb.2 it (Ne.symm hne)).trans q, hne⟩, fun b hb => ?_⟩
    · have e1 : ((i + 1 : Nat) : Int) = (i : Int) + 1 := by omega
      rw [e1]; exact he'
    · have hb' : b < s.heap.objs.size := by
        have e' : b = e ∨ b = it := by simpa using hb
        rcases e' with z | z
        · rw [z]; exact hel
        · rw [z]; exact hil
      rw [upd_ne (Nat.ne_of_lt hb')]
      exact (hf b hb).1
  done := by
    intro X hP hw hK hc i pins s σ H E I hf st hg
    subst hP hw hK
    obtain ⟨⟨old, he⟩, hit, hne⟩ := st
    obtain ⟨xs, hq, hx⟩ := hg
    obtain ⟨its, rv, p, hz⟩ := I.tuple hq
    have p' : s.heap.IsTuple a its.toArray := p
    obtain ⟨f0, f1, f2, f3, f4, f5⟩ := hf it (by simp)
    have hl := rv.length
    have hai : a ≠ it := fun z => by
      obtain ⟨o, ho, hc1, _⟩ := hit
      obtain ⟨o', ho', hc2, _⟩ := p'
      rw [z, ho] at ho'
      cases ho'
      rw [hc1] at hc2
      injection hc2 with hc2
      exact absurd hc2 (by decide)
    have ei : i = its.toArray.size := by simp; omega
    subst ei
    exact wpAny_pyNext_enum_endD (fp := [it, a]) (Draws.tuple (A := X.A.in1) (I.ok.hd hc) it a hai its.toArray) he ⟨hit, p'⟩ fun h' eb => ⟨rfl, I.turned (t' := s.toks) (fun b o hb q => eb b o hb q) f0 f1 f3 f4 f5⟩
  self := fun A i s Q E st h => let ⟨⟨_, he⟩, _⟩ := st; wpAny_pyIter_enum he h
def iEnumT (K : PySem.W.Frag) (ta : TA) : TI := fun σ H R => ta σ H fun vs H1 => ∃ a xs, vs = [.ref a] ∧ SqT K H1 a xs ∧ R (IteT K a) H1
theorem pi_enumT {X : Cx} {e : Expr} {ta : TA} {p pos tpos : Pos} {elts : List Expr} {kk : Nat} (hg : Gl X "enumerate") (hm : X.mg "enumerate" = none) (ha : PA X [e] ta) (hs : starEach [e] X.env = [(false, eval e X.env)] := by rfl) :
    PI X (.Tuple elts kk tpos) (.Call (.Name "enumerate" p) [e] [] pos) (iEnumT X.K ta) := by
  refine ⟨fun pins s σ H R I h => ?_⟩
  refine Call_ (ld_blt I hg hm boot_enumerate (PyProof.Rows.callWith_type1 (thn (ha.run pos pins s σ H _ I h) fun us s1 ⟨vs, H1, I1, r1, q1⟩ => ?_) hs rfl))
  obtain ⟨a, xs, ex, hq, q⟩ := q1
  subst ex
  cases r1 with
  | cons r rr =>
    cases rr
    cases r
    obtain ⟨its, rv, p', hz⟩ := I1.tuple hq
    refine enum1_begins (begins_tuple a its.toArray) p' fun h' he hit hsz hk => wpAny_pyIter_enum he ?_
    have I2 : Inv X pins σ H1 { s1 with heap := h' } := I1.kept (t' := s1.toks) hk
    refine ⟨s1.heap.objs.size + 1, [s1.heap.objs.size + 1, s1.heap.objs.size], _, _, H1, rfl, I2, turn_enumT a (s1.heap.objs.size + 1) s1.heap.objs.size, ⟨⟨.none, he⟩, ⟨_, hit, rfl, rfl⟩, Nat.succ_ne_self _⟩, fun b hb => ?_, q⟩
    have e' : b = s1.heap.objs.size + 1 ∨ b = s1.heap.objs.size := by simpa using hb
    have hle : s1.heap.objs.size ≤ b := by
      rcases e' with z | z
      · rw [z]; exact Nat.le_add_right _ _
      · rw [z]; exact Nat.le_refl _
    exact I1.fpOk hle (I1.hok.fresh hle)

/-! ### sorted(tuple) -/
theorem reads_lt {h : Heap} {v : Value} {d : PyData} {as : List Addr} (r : Reads h v d as) : ∀ a ∈ as, a < h.objs.size := by
  refine Reads.rec (motive_1 := fun v d as _ => ∀ a ∈ as, a < h.objs.size) (motive_2 := fun vs ds as _ => ∀ a ∈ as, a < h.objs.size) ?_ ?_ ?_ ?_ ?_ ?_ ?_ ?_ ?_ r
  · intro a ha; cases ha
  · intro _ a ha; cases ha
  · intro _ _ a ha; cases ha
  · intro _ _ a ha; cases ha
  · intro b o vs n xs as h1 h2 h3 h4 ih a ha
    rcases List.mem_cons.mp ha with e | ha
    · rw [e]; exact Heap.lt_size h1
    · exact ih a ha
  · intro b o vs n xs as h1 h2 h3 h4 ih a ha
    exact ih a ha
  · intro b o es n kvs as bs h1 h2 h3 h4 h5 ih1 ih2 a ha
    rcases List.mem_append.mp ha with ha | ha
    · rcases List.mem_cons.mp ha with e | ha
      · rw [e]; exact Heap.lt_size h1
      · exact ih1 a ha
    · exact ih2 a ha
  · intro a ha; cases ha
  · intro v vs d ds as bs h1 h2 ih1 ih2 a ha
    rcases List.mem_append.mp ha with ha | ha
    · exact ih1 a ha
    · exact ih2 a ha

def rSortDT {β : Type} (K : PySem.W.Frag) (enc : β → PyData) : List V → Hp → VK → Prop := fun vs H Q => ∃ (a : Addr) (xs : List V) (bs : List β) (F : V → β → Prop), vs = [V.ref a] ∧ SqT K H a xs ∧ Paired (fun v b => F v b ∧ DpE K H enc v b) xs bs ∧
  (∀ b b', PySem.W.alike (enc b) (enc b') = true) ∧ PySem.W.Sortable (bs.map enc) ∧ (∀ b, (enc b).depth ≤ 32) ∧
  ∀ (ys : List V) (p : Addr), Paired F ys (bs.mergeSort (PySem.W.dataLe false enc)) → H p = none → Q (.ref p) (upd H p (.lst ys))
theorem cr_sortDT {X : Cx} {β : Type} (enc : β → PyData) (hc : X.calm = true) (hu : X.A.units + 64 < cLine) : CallR X (.builtin "sorted") (rSortDT X.K enc) := by
  intro pins s σ H vs us Q I r h
  obtain ⟨a, xs, bs, F, rfl, hs, hp, hal, hso, hdp, q⟩ := h
  rw [Vals.ref1 r]
  obtain ⟨its, rv, hl, hz⟩ := I.tuple hs
  have hl' : s.heap.IsTuple a its.toArray := hl
  obtain ⟨o, ho, hcl, n, hd⟩ := hl'
  have hxl := rv.length
  refine Calls.call_function_entry kind_sorted plain_sorted entry_sorted (args_sorted1 _) ?_
  unfold Builtin.«sorted»
  refine wpAny_bind (m := checkCount "sorted" 1 1 _) (wpAny_pure ?_)
  refine wpAny_bind (wpAny_collect_seq a (.inr rfl) ho hcl hd (fun h1 k1 => ?_) (by simp; omega))
  have I1 : Inv X pins σ H { s with heap := h1 } := I.kept (t' := s.toks) k1
  have hol : its.toArray.toList = its := by simp
  rw [hol]
  have hz' : its.length ≤ sizeLine := by omega
  refine wpAny_bind (wpAny_newList ?_ hz')
  have hoL : (h1.push (seqObj "list" its.toArray 0)).get? h1.objs.size = some (seqObj "list" its.toArray 0) := Heap.get?_push_size _ rfl
  have hlen : bs.length = xs.length := (Paired.length hp).symm
  have e1 := each_of rv hp
  have I2 : Inv X pins σ H { s with heap := h1.push (seqObj "list" its.toArray 0) } := I1.kept (t' := s.toks) fun b u e => Heap.get?_push_of_some _ e
  have er : PySem.W.EachIs (fun v b => ∃ as, Reads (h1.push (seqObj "list" its.toArray 0)) v (enc b) as ∧ h1.objs.size ∉ as) its bs := (each_reads I1 e1).mono fun v b ⟨as, r⟩ =>
    ⟨as, PyProof.Rows.Reads.keeps (fun _ _ e => Heap.get?_push_of_some _ e) r, fun z => Nat.lt_irrefl _ (reads_lt r _ z)⟩
  have e3 : PySem.W.EachIs (fun u b => ∃ v, F v b ∧ RelV v u ∧ Dp X.K H v (enc b)) its bs := e1
  refine wpAny_bind (wpAny_holding (PySem.W.list_sort_data (enc := enc) (s := { s with heap := h1.push (seqObj "list" its.toArray 0) }) hoL e3 er (PySem.W.AllAlike.of hal) hso (by omega) (fun b _ => by have := hdp b; show X.A.units + 1 + 1 + (enc b).depth < cLine; omega) fun out2 h2 e2 => ?_))
  obtain ⟨ys, rys, pys⟩ := of_each (F := F) (fun u b ⟨v, m, r, d⟩ => ⟨v, r, m⟩) e2
  obtain ⟨c, hc2⟩ := sortedHeap_at (vs := its) (out := out2.toArray) hoL
  have hold : ∀ b u, h1.get? b = some u → (sortedHeap (h1.push (seqObj "list" its.toArray 0)) h1.objs.size its out2.toArray).get? b = some u := fun b u e => by
    have lt := Heap.lt_size e
    exact (sortedHeap_old (Nat.ne_of_lt lt) (by rw [Heap.size_push]; exact Nat.lt_succ_of_lt lt)).trans (Heap.get?_push_of_some _ e)
  have hly : ys.length ≤ sizeLine := by rw [rys.length, h2, hlen]; omega
  refine wpAny_pure ⟨_, rfl, .ref h1.objs.size, upd H h1.objs.size (.lst ys), I1.laid (t' := s.toks) hold (Nat.le_refl _) ⟨hly, out2, c, rys, hc2⟩, rfl, q ys _ pys (I1.hok.fresh (Nat.le_refl _))⟩
end WW

set_option Elab.async false
set_option linter.all false
set_option maxRecDepth 100000
/-! Rules at a fragment that is told (for blocks of comprehensions). -/
namespace WW
open PySem PySem.Spec PyProof.Rows L2
def rTupOf (K : PySem.W.Frag) : List V → Hp → VK → Prop := fun xs H Q => ∃ p ys, xs = [.ref p] ∧ ((SqL K H p ys ∧ ∀ l, H l = none → Q (.ref l) (upd H l (.tup ys))) ∨ (SqT K H p ys ∧ Q (.ref p) H))
def rListOf (K : PySem.W.Frag) : List V → Hp → VK → Prop := fun xs H Q => ∃ p ys, xs = [.ref p] ∧ (SqL K H p ys ∨ SqT K H p ys) ∧ ∀ l, H l = none → Q (.ref l) (upd H l (.lst ys))
section
variable {X : Cx} {K : PySem.W.Frag}
theorem ixK (h : X.K = K) : IxR X (rIx K) := h ▸ ix_seq
theorem inK (h : X.K = K) : OpR X (compareOp .In) (rIn K false) := h ▸ op_in_seq
theorem notInK (h : X.K = K) : OpR X (compareOp .NotIn) (rIn K true) := h ▸ op_notIn_seq
theorem lenK (h : X.K = K) : CallR X (.builtin "len") (rLen K) := h ▸ (call_len : CallR X _ (rLen X.K))
theorem isiK (h : X.K = K) : CallR X (.builtin "isinstance") (rIsi K) := h ▸ call_isi
theorem tupOfK (h : X.K = K) : CallR X (.type "tuple") (rTupOf K) := h ▸ (call_tuple_of : CallR X _ (rTupOf X.K))
theorem listOfK (h : X.K = K) : CallR X (.type "list") (rListOf K) := h ▸ (call_list_of : CallR X _ (rListOf X.K))
theorem eqDK (h : X.K = K) (hu : X.A.units + 64 < cLine) : OpR X (compareOp .Eq) (rEqD K) := h ▸ op_eqD hu
theorem room65 {k : Nat} {A : Around} (r : Room k A) : A.units + 65 < cLine := by have := r.un; omega
end
end WW

set_option Elab.async false
set_option linter.all false
set_option maxRecDepth 100000
set_option maxHeartbeats 4000000
/-! Loops and comprehensions over anything that stays. -/
namespace WW
open PySem PySem.Spec PyProof.Rows L2 Evl
/-- whatever is laid behind H, the iterator gives xs -/
structure Steady (J : It) (H : Hp) (xs : List V) : Prop where
  go : ∀ i H', Ex H H' → i < xs.length → J.go i H'
  yld : ∀ i H' x H'', Ex H H' → i < xs.length → J.yld i H' x H'' → H'' = H' ∧ xs[i]? = some x
  stop : ∀ H', Ex H H' → J.stop xs.length H'
section
variable {K : PySem.W.Frag} {H : Hp} {a : Addr} {xs : List V}
theorem st_l (h : SqL K H a xs) : Steady (Itl K a) H xs where
  go := fun i H' e hi => ⟨xs, xs[i], ex_l e h, List.getElem?_eq_getElem hi⟩
  yld := fun i H' x H'' e _ y => ⟨y.1, y.2 xs (ex_l e h)⟩
  stop := fun H' e => ⟨xs, ex_l e h, Nat.le_refl _⟩
theorem st_t (h : SqT K H a xs) : Steady (Itt K a) H xs where
  go := fun i H' e hi => ⟨xs, xs[i], ex_t e h, List.getElem?_eq_getElem hi⟩
  yld := fun i H' x H'' e _ y => ⟨y.1, y.2 xs (ex_t e h)⟩
  stop := fun H' e => ⟨xs, ex_t e h, Nat.le_refl _⟩
def chs (z : Str) : List V := z.cps.toList.map fun c => V.str ⟨#[c]⟩
theorem chs_len (z : Str) : (chs z).length = z.length := by unfold chs; rw [List.length_map, Array.length_toList]; rfl
theorem st_s {z : Str} : Steady (Its z) H (chs z) where
  go := fun i H' e hi => by
    have h2 : (chs z).length = z.cps.size := by unfold chs; simp
    show i < z.cps.size
    omega
  yld := fun i H' x H'' e hi y => by
    obtain ⟨e1, c, hc, rfl⟩ := y
    refine ⟨e1, ?_⟩
    unfold chs
    rw [List.getElem?_map]
    have e2 : z.cps.toList[i]? = some c := by simpa using hc
    rw [e2]
    rfl
  stop := fun H' e => by
    show z.cps.size ≤ (chs z).length
    unfold chs
    simp
theorem st_r {lo : Int} {n : Nat} : Steady (Itr lo n) H ((List.range n).map fun (i : Nat) => V.int (lo + (i : Int))) where
  go := fun i H' e hi => by
    show i < n
    simpa using hi
  yld := fun i H' x H'' e hi y => by
    obtain ⟨e1, rfl⟩ := y
    refine ⟨e1, ?_⟩
    have hi2 : i < n := by simpa using hi
    rw [List.getElem?_map, List.getElem?_range hi2]
    rfl
  stop := fun H' e => by
    show n ≤ _
    simp
end
section
variable {J : It} {H : Hp} {xs : List V} {D : Addr} {σ : L2.St} {vs : List Nat} {j : Nat} {tt : TT} {te : TE} {f : V → Bool} {v : V → V} {Q : Hp → Prop}
theorem take_snoc {α : Type} {l : List α} {i : Nat} {x : α} (h : l[i]? = some x) : l.take (i + 1) = l.take i ++ [x] := by
  rw [List.take_add_one, h]
  rfl
theorem lc_ev (S : Steady J H xs) (hz : xs.length < 100000) (hw : ∀ x, wipe ((wipe σ vs).set j (some x)) vs = wipe σ vs) (hD : H D = none)
    (ht : ∀ x ∈ xs, EvT tt ((wipe σ vs).set j (some x)) H (f x)) (he : ∀ x ∈ xs, f x = true → Ev te ((wipe σ vs).set j (some x)) H (v x))
    (q : ∀ H', Ex H H' → H' D = some (.lst ((xs.filter f).map v)) → Q H') :
    ∃ W : Nat → Nat → Hp → Prop, (∃ m, W 0 m (upd H D (.lst []))) ∧ ∀ i m H, W i m H →
      (J.stop i H ∧ Q H) ∨ (J.go i H ∧ ∃ Nx : Hp → Prop, (∀ H', Nx H' → ∃ m', m' < m ∧ W (i + 1) m' H') ∧ ∀ x H', J.yld i H x H' → gName j x (wipe σ vs) H' fun σ2 H2 => wipe σ2 vs = wipe σ vs ∧ tt σ2 H2 fun b H3 =>
        if b = true then te σ2 H3 fun y H4 => ∃ acc, H4 D = some (.lst acc) ∧ acc.length < sizeLine ∧ Nx (upd H4 D (.lst (acc ++ [y]))) else Nx H3) := by
  refine ⟨fun i m H' => m = xs.length - i ∧ i ≤ xs.length ∧ Ex H H' ∧ H' D = some (.lst (((xs.take i).filter f).map v)), ⟨xs.length, by simp, Nat.zero_le _, Ex.new hD, upd_same⟩, ?_⟩
  rintro i m H' ⟨rfl, hi, e, hd⟩
  by_cases hlt : i < xs.length
  · refine .inr ⟨S.go i H' e hlt, fun H' => Ex H H' ∧ H' D = some (.lst (((xs.take (i + 1)).filter f).map v)), fun H'' p' => ⟨xs.length - (i + 1), by omega, rfl, hlt, p'⟩, fun x H'' y => ?_⟩
    obtain ⟨e1, hx⟩ := S.yld i H' x H'' e hlt y
    subst e1
    have mx : x ∈ xs := List.mem_of_getElem? hx
    refine ⟨hw x, ht x mx _ e _ fun H2 e2 => ?_⟩
    rw [take_snoc hx]
    cases hf : f x with
    | true =>
      refine he x mx hf H2 (e.trans e2) _ fun H3 e3 => ⟨_, e3 _ _ (e2 _ _ hd), ?_, (e.trans e2 |>.trans e3).mut hD, ?_⟩
      · have h1 := List.length_filter_le f (xs.take i)
        rw [List.length_map]
        have h2 : (xs.take i).length ≤ xs.length := by rw [List.length_take]; omega
        exact sz_lt (by omega)
      · rw [upd_same, List.filter_append, List.map_append]
        simp [hf]
    | false =>
      refine ⟨e.trans e2, ?_⟩
      rw [e2 _ _ hd, List.filter_append]
      simp [hf]
  · have e1 : i = xs.length := by omega
    subst e1
    rw [List.take_length] at hd
    exact .inl ⟨S.stop H' e, q H' e hd⟩
/-- {e for x in ..} of texts -/
theorem set_ev {P : Program} {w : World} {u : V → Str} (S : Steady J H xs) (hz : xs.length < 1000) (hw : ∀ x, wipe ((wipe σ vs).set j (some x)) vs = wipe σ vs) (hD : H D = none)
    (he : ∀ x ∈ xs, Ev te ((wipe σ vs).set j (some x)) H (.str (u x)))
    (q : ∀ H' ks, Ex H H' → ks.Nodup → (∀ k, k ∈ ks ↔ k ∈ xs.map u) → H' D = some (SSO P w D ks) → Q H') :
    ∃ W : Nat → Nat → Hp → Prop, (∃ m, W 0 m (upd H D (SSO P w D []))) ∧ ∀ i m H2, W i m H2 → (J.stop i H2 ∧ Q H2) ∨
    (J.go i H2 ∧ ∃ Nx : Hp → Prop, (∀ H', Nx H' → ∃ m', m' < m ∧ W (i + 1) m' H') ∧ ∀ x H', J.yld i H2 x H' → gName j x (wipe σ vs) H' fun σ3 H3 => wipe σ3 vs = wipe σ vs ∧
      tYes σ3 H3 fun b H4 => if b = true then te σ3 H4 fun y H5 => addS P w y D H5 Nx else Nx H4) := by
  refine ⟨fun i m H' => m = xs.length - i ∧ i ≤ xs.length ∧ Ex H H' ∧ ∃ ks, ks.Nodup ∧ ks.length ≤ i ∧ (∀ k, k ∈ ks ↔ k ∈ (xs.take i).map u) ∧ H' D = some (SSO P w D ks), ⟨xs.length, by simp, Nat.zero_le _, Ex.new hD, [], List.nodup_nil, Nat.le_refl _, by simp, upd_same⟩, ?_⟩
  rintro i m H' ⟨rfl, hi, e, ks, nd, hl, hm, hd⟩
  by_cases hlt : i < xs.length
  · refine .inr ⟨S.go i H' e hlt, fun H' => Ex H H' ∧ ∃ ks, ks.Nodup ∧ ks.length ≤ i + 1 ∧ (∀ k, k ∈ ks ↔ k ∈ (xs.take (i + 1)).map u) ∧ H' D = some (SSO P w D ks), fun H'' p' => ⟨xs.length - (i + 1), by omega, rfl, hlt, p'⟩, fun x H'' y => ?_⟩
    obtain ⟨e1, hx⟩ := S.yld i H' x H'' e hlt y
    subst e1
    have mx : x ∈ xs := List.mem_of_getElem? hx
    refine ⟨hw x, ?_⟩
    unfold tYes
    refine he x mx _ e _ fun H3 e3 => ?_
    refine ⟨u x, ks, rfl, e3 _ _ hd, ?_, fun ks' ad => ⟨(e.trans e3).mut hD, ks', ?_, ?_, ?_, upd_same⟩⟩
    · have : (1002 : Nat) ≤ scanBound := by decide
      omega
    · rcases ad with ⟨_, rfl⟩ | ⟨n, p⟩
      · exact nd
      · exact p.nodup_iff.mpr (List.nodup_cons.mpr ⟨n, nd⟩)
    · rcases ad with ⟨_, rfl⟩ | ⟨n, p⟩
      · omega
      · rw [p.length_eq, List.length_cons]; omega
    · intro k
      rw [take_snoc hx, List.map_append, List.mem_append, ← hm k]
      rcases ad with ⟨m, rfl⟩ | ⟨n, p⟩
      · constructor
        · exact fun z => .inl z
        · rintro (z | z)
          · exact z
          · simp at z; rw [z]; exact m
      · rw [p.mem_iff, List.mem_cons]
        constructor
        · rintro (z | z)
          · exact .inr (by simp [z])
          · exact .inl z
        · rintro (z | z)
          · exact .inr z
          · simp at z
            exact .inl z
  · have e1 : i = xs.length := by omega
    subst e1
    rw [List.take_length] at hm
    exact .inl ⟨S.stop H' e, q H' ks e nd hm hd⟩
end
/-- any for loop of n turns -/
theorem for_go {J : It} {n : Nat} {g : TG} {tb : TS} {D : Ends} {σ : L2.St} {H : Hp} (Pv : Nat → L2.St → Hp → Prop) (h0 : Pv 0 σ H) (hgo : ∀ i σ H, i < n → Pv i σ H → J.go i H) (hst : ∀ σ H, Pv n σ H → J.stop n H)
    (hs : ∀ i σ H x H', i < n → Pv i σ H → J.yld i H x H' → g x σ H' fun σ2 H2 => tb { D with nx := Pv (i + 1), ct := Pv (i + 1), bk := D.nx } σ2 H2) (hd : ∀ σ H, Pv n σ H → D.nx σ H) :
    ∃ W : Nat → Nat → L2.St → Hp → Prop, (∃ m, W 0 m σ H) ∧ ∀ i m σ H, W i m σ H →
      (J.stop i H ∧ D.nx σ H) ∨ (J.go i H ∧ ∃ N : L2.St → Hp → Prop, (∀ σ' H', N σ' H' → ∃ m', m' < m ∧ W (i + 1) m' σ' H') ∧ ∀ x H', J.yld i H x H' → g x σ H' fun σ2 H2 => tb { D with nx := N, ct := N, bk := D.nx } σ2 H2) := by
  refine ⟨fun i m σ H => m = n - i ∧ i ≤ n ∧ Pv i σ H, ⟨n, by simp, Nat.zero_le _, h0⟩, ?_⟩
  rintro i m σ H ⟨rfl, hi, p⟩
  by_cases hlt : i < n
  · refine .inr ⟨hgo i σ H hlt p, Pv (i + 1), fun σ' H' p' => ⟨n - (i + 1), by omega, rfl, hlt, p'⟩, fun x H' y => hs i σ H x H' hlt p y⟩
  · have e : i = n := by omega
    subst e
    exact .inl ⟨hst σ H p, hd σ H p⟩
end WW
namespace WW
open PySem PySem.Spec PyProof.Rows L2 Evl
/-- whatever is laid behind H, enumerate gives xs -/
structure EnumS (J : It) (H : Hp) (xs : List V) : Prop where
  go : ∀ i H', Ex H H' → i < xs.length → J.go i H'
  yld : ∀ i H' v H'', Ex H H' → i < xs.length → J.yld i H' v H'' → ∃ T x, v = .ref T ∧ H' T = none ∧ H'' = upd H' T (.tup [.int (i : Nat), x]) ∧ xs[i]? = some x
  stop : ∀ H', Ex H H' → J.stop xs.length H'
section
variable {K : PySem.W.Frag} {H : Hp} {a : Addr} {xs : List V}
theorem en_l (h : SqL K H a xs) : EnumS (Ite K a) H xs where
  go := fun i H' e hi => ⟨xs, xs[i], ex_l e h, List.getElem?_eq_getElem hi⟩
  yld := fun i H' v H'' e _ ⟨T, x, e1, e2, e3, e4⟩ => ⟨T, x, e1, e2, e3, e4 xs (ex_l e h)⟩
  stop := fun H' e => ⟨xs, ex_l e h, Nat.le_refl _⟩
theorem en_t (h : SqT K H a xs) : EnumS (IteT K a) H xs where
  go := fun i H' e hi => ⟨xs, xs[i], ex_t e h, List.getElem?_eq_getElem hi⟩
  yld := fun i H' v H'' e _ ⟨T, x, e1, e2, e3, e4⟩ => ⟨T, x, e1, e2, e3, e4 xs (ex_t e h)⟩
  stop := fun H' e => ⟨xs, ex_t e h, rfl⟩
/-- a list or a tuple -/
def SqX (H : Hp) (a : Addr) (xs : List V) : Prop := H a = some (.lst xs) ∨ H a = some (.tup xs)
theorem SqX.ex {H H' : Hp} (e : Ex H H') (h : SqX H a xs) : SqX H' a xs := h.imp (e _ _) (e _ _)
theorem ienum_go {σ : L2.St} {i : Nat} {R : It → Hp → Prop} (h : σ[i]? = some (some (.ref a))) (hx : SqX H a xs) (k : ∀ J, EnumS J H xs → R J H) : iOr (iEnum K (tCons (tVar i) tNil)) (iEnumT K (tCons (tVar i) tNil)) σ H R := by
  rcases hx with hx | hx
  · exact .inl ⟨_, h, a, xs, rfl, sq_of hx, k _ (en_l (sq_of hx))⟩
  · exact .inr ⟨_, h, a, xs, rfl, st_of hx, k _ (en_t (st_of hx))⟩
theorem iseq_go {σ : L2.St} {i : Nat} {R : It → Hp → Prop} (h : σ[i]? = some (some (.ref a))) (hx : SqX H a xs) (k : ∀ J, Steady J H xs → R J H) : iOr (iList K (tVar i)) (iTup K (tVar i)) σ H R := by
  rcases hx with hx | hx
  · exact .inl ⟨_, h, a, rfl, ⟨xs, sq_of hx⟩, k _ (st_l (sq_of hx))⟩
  · exact .inr ⟨_, h, a, rfl, ⟨xs, st_of hx⟩, k _ (st_t (st_of hx))⟩
theorem cut_take (xs : List V) (i : Nat) : cutV xs none (some (i : Int)) = xs.take i := by
  unfold cutV
  rw [HT.sIx_none, HT.sIx_nat]
  simp
theorem cut_drop (xs : List V) (i : Nat) : cutV xs (some (i : Int)) none = xs.drop i := by
  unfold cutV
  rw [HT.sIx_none, HT.sIx_nat]
  rcases Nat.le_total i xs.length with h | h
  · rw [Nat.min_eq_left h, List.take_of_length_le (by rw [List.length_drop]; omega)]
  · rw [Nat.min_eq_right h, List.drop_of_length_le h]
    simp
/-- xs[:i] -/
theorem slx_take {i : Nat} {Q : VK} (hx : SqX H a xs) (hi : i ≤ xs.length) (k : ∀ p H', Ex H H' → SqX H' p (xs.take i) → Q (.ref p) H') : rSlL K (.ref a) none (some (i : Int)) H Q ∨ rSlA K (.ref a) none (some (i : Int)) H Q := by
  rcases hx with hx | hx
  · exact .inl ⟨a, xs, rfl, sq_of hx, fun p hp => k p _ (Ex.new hp) (by rw [cut_take]; exact .inl upd_same)⟩
  · refine .inr ⟨a, xs, rfl, st_of hx, fun ⟨_, h2⟩ => k a H (Ex.refl _) (.inr ?_), fun _ p hp => k p _ (Ex.new hp) (by rw [cut_take]; exact .inr upd_same)⟩
    rw [HT.sIx_nat] at h2
    have e : xs.take i = xs := List.take_of_length_le (by omega)
    rw [e]
    exact hx
theorem tupof_go {Q : VK} (hx : SqX H a xs) (k : ∀ tp H', Ex H H' → H' tp = some (.tup xs) → Q (.ref tp) H') : rTupOf K [.ref a] H Q := by
  rcases hx with hx | hx
  · exact ⟨a, xs, rfl, .inl ⟨sq_of hx, fun l hl => k l _ (Ex.new hl) upd_same⟩⟩
  · exact ⟨a, xs, rfl, .inr ⟨st_of hx, k a H (Ex.refl _) hx⟩⟩
theorem listof_go {Q : VK} (hx : SqX H a xs) (k : ∀ l H', Ex H H' → H l = none → H' l = some (.lst xs) → Q (.ref l) H') : rListOf K [.ref a] H Q :=
  ⟨a, xs, rfl, hx.imp sq_of st_of, fun l hl => k l _ (Ex.new hl) hl upd_same⟩
theorem putF_le {f : Str} {y : V} : ∀ fs : List (Str × V), (putF f y fs).length ≤ fs.length + 1
  | [] => by show 1 ≤ 1; omega
  | (g, z) :: r => by
    have ih := putF_le (f := f) (y := y) r
    unfold putF
    split
    · simp
    · simp; omega
end
end WW

set_option Elab.async false
set_option linter.all false
set_option maxRecDepth 100000
set_option maxHeartbeats 4000000
/-! Triples (number, text, number) as data. -/
namespace WW
open PySem PySem.Spec PyProof.Rows L2
/-- a step: from, word, to -/
abbrev Stp := Int × Str × Int
def encS (t : Stp) : PyData := .tuple [.int t.1, .str t.2.1, .int t.2.2]
def OkS (z : Stp) : Prop := PyData.strOk z.2.1 = true
theorem encS_lay {z : Stp} (h : OkS z) : (encS z).canLay0 = true := by
  have h : PyData.strOk z.2.1 = true := h
  simp [encS, PyData.canLay0, PyData.canLayAll0, h]
theorem encS_depth (z : Stp) : (encS z).depth ≤ 2 := by simp [encS, PyData.depth, PyData.depthAll]
theorem encSs_lay : ∀ zs : List Stp, (∀ z ∈ zs, OkS z) → PyData.canLayAll0 (zs.map encS) = true
  | [], _ => by simp [PyData.canLayAll0]
  | z :: zs, h => by
    have h1 := encS_lay (h z List.mem_cons_self)
    have h2 := encSs_lay zs fun y hy => h y (List.mem_cons_of_mem _ hy)
    simp only [List.map_cons, PyData.canLayAll0]
    rw [h1, h2]
    rfl
theorem encSs_depth : ∀ zs : List Stp, PyData.depthAll (zs.map encS) ≤ 2
  | [] => by simp [PyData.depthAll]
  | z :: zs => by
    have h1 := encSs_depth zs
    have h2 := encS_depth z
    simp only [List.map_cons, PyData.depthAll]
    omega
theorem encS_shaped {z : Stp} (h0 : OkS z) : SeqAt.shaped (encS z) = true := by
  have h := encS_depth z
  show ((encS z).canLay0 && decide ((encS z).depth ≤ 64)) = true
  rw [Bool.and_eq_true]
  exact ⟨encS_lay h0, decide_eq_true (by omega)⟩
theorem encSs_shaped {zs : List Stp} (h0 : ∀ z ∈ zs, OkS z) : SeqAt.shaped (.list (zs.map encS)) = true := by
  have h1 := encSs_depth zs
  have h2 : PyData.depth (.list (zs.map encS)) ≤ 64 := by
    simp only [PyData.depth]
    omega
  show (PyData.canLay0 (.list (zs.map encS)) && decide (PyData.depth (.list (zs.map encS)) ≤ 64)) = true
  rw [Bool.and_eq_true]
  exact ⟨by simp only [PyData.canLay0]; exact encSs_lay zs h0, decide_eq_true h2⟩
theorem encSs_shapedT {zs : List Stp} (h0 : ∀ z ∈ zs, OkS z) : SeqAt.shaped (.tuple (zs.map encS)) = true := by
  have h1 := encSs_depth zs
  have h2 : PyData.depth (.tuple (zs.map encS)) ≤ 64 := by
    simp only [PyData.depth]
    omega
  show (PyData.canLay0 (.tuple (zs.map encS)) && decide (PyData.depth (.tuple (zs.map encS)) ≤ 64)) = true
  rw [Bool.and_eq_true]
  exact ⟨by simp only [PyData.canLay0]; exact encSs_lay zs h0, decide_eq_true h2⟩
theorem encS_eqv (z w : Stp) : PyData.eqv (encS z) (encS w) = decide (z = w) := by
  obtain ⟨a, b, c⟩ := z
  obtain ⟨a', b', c'⟩ := w
  have e : PyData.eqv (encS (a, b, c)) (encS (a', b', c')) = ((a == a') && ((b == b') && ((c == c') && true))) := by simp only [encS, PyData.eqv, PyData.eqvAll]
  rw [e, Bool.eq_iff_iff]
  simp
theorem encSs_eqvAll : ∀ (zs ws : List Stp), PyData.eqvAll (zs.map encS) (ws.map encS) = decide (zs = ws)
  | [], [] => by simp [PyData.eqvAll]
  | [], _ :: _ => by simp [PyData.eqvAll]
  | _ :: _, [] => by simp [PyData.eqvAll]
  | z :: zs, w :: ws => by
    rw [List.map_cons, List.map_cons]
    simp only [PyData.eqvAll]
    rw [encS_eqv, encSs_eqvAll zs ws, Bool.eq_iff_iff]
    simp
theorem encSs_eqv (zs ws : List Stp) : PyData.eqv (.list (zs.map encS)) (.list (ws.map encS)) = decide (zs = ws) := by
  simp only [PyData.eqv]
  exact encSs_eqvAll zs ws
theorem encSs_eqvT (zs ws : List Stp) : PyData.eqv (.tuple (zs.map encS)) (.tuple (ws.map encS)) = decide (zs = ws) := by
  simp only [PyData.eqv]
  exact encSs_eqvAll zs ws
theorem encSs_any (zs : List Stp) (z : Stp) : ((zs.map encS).any fun y => PyData.eqv y (encS z)) = decide (z ∈ zs) := by
  rw [List.any_map, Bool.eq_iff_iff, List.any_eq_true]
  constructor
  · rintro ⟨w, hw, e⟩
    have e2 := encS_eqv w z
    rw [show PyData.eqv (encS w) (encS z) = true from e] at e2
    rw [← of_decide_eq_true e2.symm]
    exact decide_eq_true hw
  · intro h
    refine ⟨z, of_decide_eq_true h, ?_⟩
    show PyData.eqv (encS z) (encS z) = true
    rw [encS_eqv]
    exact decide_eq_true rfl
theorem encS_alike (z w : Stp) : PySem.W.alike (encS z) (encS w) = true := by simp [encS, PySem.W.alike, PySem.W.alikeAll]
theorem encS_sortable (zs : List Stp) : PySem.W.Sortable (zs.map encS) := PySem.W.Sortable.tuples fun _ => ⟨_, _, rfl⟩
theorem encS_keys {z w : Stp} (h : PySem.W.keyToks (encS z) = PySem.W.keyToks (encS w)) : z = w := by
  obtain ⟨a, b, c⟩ := z
  obtain ⟨a', b', c'⟩ := w
  simp [encS, PySem.W.keyToks, PySem.W.keyToksAll] at h
  obtain ⟨h1, h2, h3⟩ := h
  have hb : b = b' := by
    cases b; cases b'
    first | exact congrArg Str.mk (Array.ext' h2) | exact congrArg Str.mk h2
  rw [h1, hb, h3]
abbrev leT : Stp → Stp → Bool := PySem.W.dataLe false encS
theorem leT_anti (a b : Stp) (h1 : leT a b = true) (h2 : leT b a = true) : a = b := by
  refine encS_keys ?_
  have e1 : (listOrd itemOrd).blt (PySem.W.keyToks (encS b)) (PySem.W.keyToks (encS a)) = false := by simpa [leT, PySem.W.dataLe, PySem.W.sortLe] using h1
  have e2 : (listOrd itemOrd).blt (PySem.W.keyToks (encS a)) (PySem.W.keyToks (encS b)) = false := by simpa [leT, PySem.W.dataLe, PySem.W.sortLe] using h2
  exact (listOrd itemOrd).total _ _ e2 e1
def sortT (ts : List Stp) : List Stp := ts.mergeSort leT
theorem sortT_perm (ts : List Stp) : (sortT ts).Perm ts := List.mergeSort_perm ts leT
theorem sortT_sorted (ts : List Stp) : (sortT ts).Pairwise (fun a b => leT a b = true) := List.pairwise_mergeSort (PySem.W.sortLe_total _ _ _).trans (fun a b => Bool.or_eq_true_iff.mpr ((PySem.W.sortLe_total _ _ _).total a b)) ts
theorem sortT_congr {ks ls : List Stp} (p : ks.Perm ls) : sortT ks = sortT ls :=
  List.Perm.eq_of_pairwise (fun a b _ _ => leT_anti a b) (sortT_sorted ks) (sortT_sorted ls) (((sortT_perm ks).trans p).trans (sortT_perm ls).symm)
theorem sortT_len (ts : List Stp) : (sortT ts).length = ts.length := (sortT_perm ts).length_eq
end WW

set_option Elab.async false
set_option linter.all false
set_option maxRecDepth 100000
set_option maxHeartbeats 4000000
/-! A head's facts: those of the layer, defs found anyhow, one more Bool. -/
namespace WW
open PySem PySem.Spec PyProof.Rows L2 He
def obsB (fa : List Fa) (fn : List He5.DefA) (ex : PySem.W.Frag → Bool) (K : PySem.W.Frag) : He.AlD := (((fa.all fun f => f.ok K) && ex K) && fn.all fun d => d.ok K, fn.map fun d => He5.fnA K (d.at_ K))
def SaysB (fa : List Fa) (fn : List He5.DefA) (ex : PySem.W.Frag → Bool) (K : PySem.W.Frag) : Prop := obsB fa fn ex K = He5.valA fn
def obsBG (n : Nat) (fa : List Fa) (fn : List He5.DefA) (ex : PySem.W.Frag → Bool) (g : Addr → Option Obj) : He.AlD := obsB fa fn ex (frG g (He5.asA g n))
def hookB (n : Nat) (fa : List Fa) (fn : List He5.DefA) (ex : PySem.W.Frag → Bool) : PySem.W.Hook where
  α := He.AlD
  obs := fun s => obsBG n fa fn ex s.heap.get?
  val := fun _ => He5.valA fn
  says := fun _ h => ∃ K : PySem.W.Frag, K.In h ∧ SaysB fa fn ex K
  of := fun _ _ e => ⟨_, frG_in, e⟩
  keeps := fun _ _ _ ⟨K, hK, c⟩ k => ⟨K, PySem.W.Frag.In.keeps hK k, c⟩
theorem obsBG_eq {n : Nat} {fa : List Fa} {fn : List He5.DefA} {ex : PySem.W.Frag → Bool} {g : Addr → Option Obj} {s : Shared} (h : ∀ a, g a = s.heap.get? a) : obsBG n fa fn ex g = (hookB n fa fn ex).obs s := by
  have e : g = s.heap.get? := funext h
  rw [e] <;> rfl
section
variable {fa : List Fa} {fn : List He5.DefA} {ex : PySem.W.Frag → Bool} {K : PySem.W.Frag}
theorem SaysB.fact (c : SaysB fa fn ex K) {f : Fa} (h : f ∈ fa) : f.ok K = true := by
  have c1 := (ba (ba (show (((fa.all fun f => f.ok K) && ex K) && fn.all fun d => d.ok K) = true from congrArg (fun z : He.AlD => z.1) c)).1).1
  exact List.all_eq_true.mp c1 f h
theorem SaysB.ext (c : SaysB fa fn ex K) : ex K = true :=
  (ba (ba (show (((fa.all fun f => f.ok K) && ex K) && fn.all fun d => d.ok K) = true from congrArg (fun z : He.AlD => z.1) c)).1).2
theorem SaysB.def_ (c : SaysB fa fn ex K) (i : Nat) {d : He5.DefA} (h : fn[i]? = some d := by rfl) : ∃ fd, L2.FunD K d.name d.qual d.params d.body d.scope (d.dvs K) (d.kws K) (d.at_ K) fd := by
  have c2 := (ba (show (((fa.all fun f => f.ok K) && ex K) && fn.all fun d => d.ok K) = true from congrArg (fun z : He.AlD => z.1) c)).2
  have e : fn.map (fun d => He5.fnA K (d.at_ K)) = fn.map He5.DefA.val := congrArg (fun z : He.AlD => z.2) c
  have e2 : (fn.map fun d => He5.fnA K (d.at_ K))[i]? = (fn.map He5.DefA.val)[i]? := by rw [e]
  rw [List.getElem?_map, List.getElem?_map, h] at e2
  exact He5.DefA.funD (Option.some.inj e2) (List.all_eq_true.mp c2 d (List.mem_of_getElem? h))
end
/-- the getter of a property -/
def getr (K : PySem.W.Frag) (C : Addr) (f : Str) : Addr := match PySem.W.recIn K (ma K C f) "property" with
  | some (.ref g :: _) => g
  | _ => 0
def propB (K : PySem.W.Frag) (C : Addr) (f : Str) : Bool := eqO (PySem.W.findIn K (.ref C) f) (some (some (.ref (ma K C f)))) && (eqO (PySem.W.specialIn K (.ref (ma K C f)) "__get__") (some (some (.builtin "property.__get__"))) &&
  (decide (PySem.W.takesIn K (.ref (ma K C f)) = some true) && (match PySem.W.recIn K (ma K C f) "property" with
    | some (.ref g :: _) => true
    | _ => false)))
theorem propB_ok {K : PySem.W.Frag} {C : Addr} {f : Str} (h : propB K C f = true) : PropOf K C f (ma K C f) (getr K C f) := by
  obtain ⟨h1, h⟩ := ba h
  obtain ⟨h2, h⟩ := ba h
  obtain ⟨h3, h4⟩ := ba h
  refine ⟨eqO_ok h1, eqO_ok h2, of_decide_eq_true h3, ?_⟩
  unfold getr
  cases e : PySem.W.recIn K (ma K C f) "property" with
  | none => rw [e] at h4; cases h4
  | some l =>
    cases l with
    | nil => rw [e] at h4; cases h4
    | cons v r =>
      cases v with
      | ref g => exact ⟨r, rfl⟩
      | _ => rw [e] at h4; cases h4
end WW

set_option Elab.async false
set_option linter.all false
set_option maxRecDepth 100000
set_option maxHeartbeats 4000000
namespace WK
open PySem PySem.Spec PyProof.Rows L2 WW Evl
def top (i : Nat) : Stmt := PySem.Challenge.pw_watchedworks_k01_hands_are_equal.main.body.getD i (.Pass ⟨0, 0, 0, 0⟩)
/-- the built-in names that the program doesn't take -/
structure Gz (mg : Str → Option Value) : Prop where
  g_len : mg "len" = none
  g_isinstance : mg "isinstance" = none
  g_int : mg "int" = none
  g_bool : mg "bool" = none
  g_str : mg "str" = none
  g_list : mg "list" = none
  g_tuple : mg "tuple" = none
  g_all : mg "all" = none
  g_abs : mg "abs" = none
  g_max : mg "max" = none
  g_sorted : mg "sorted" = none
  g_range : mg "range" = none
  g_enumerate : mg "enumerate" = none
/-- a def of the module's -/
structure Df (K : PySem.W.Frag) (mg : Str → Option Value) (x : Str) (st : Stmt) (f : Addr) (fd : FuncData) (ps : List Str) : Prop where
  fn : FunD K x x (defArgs st) (defBody st) (defScope st) [] [] f fd
  at_ : mg x = some (.ref f)
  bd : Binds K fd ps []
theorem Df.callee {P : Program} {w : World} {K : PySem.W.Frag} {mg : Str → Option Value} {base : Heap} {CX : CXT} {k : Nat} {x : Str} {st : Stmt} {f : Addr} {fd : FuncData} {ps : List Str} {sp : Sp} (D : Df K mg x st f fd ps) (ok : FnOk P w K mg base CX k f fd ps sp) : Callee P w K mg base CX k x ps.length sp :=
  ⟨f, fd, ps, rfl, ok, D.at_, D.fn.kp, D.bd⟩
section
variable {P : Program} {w : World} {K : PySem.W.Frag} {mg : Str → Option Value} {base : Heap} {f : Addr} {fd : FuncData}
abbrev s_is_integer : Stmt := top 7
theorem sc_is_integer : FnScope ["thing"] ["thing"] (defScope s_is_integer) := ⟨rfl, rfl, rfl, by decide +kernel, rfl, by decide +kernel, by decide +kernel⟩
def spIsInteger : Sp := fun vs H Q _ => ∃ i : Int, vs = [.int i] ∧ ∀ H', Ex H H' → Q (.bl true) H'
theorem ok_is_integer (G : Gz mg) (D : Df K mg "is_integer" s_is_integer f fd ["thing"]) : Callee P w K mg base CXn 1 "is_integer" 1 spIsInteger := by
  refine D.callee (D.fn.ok sc_is_integer (fun vs H Q E h => ?_) (fun cdv A outer s H vs Q E hr h => ⟨_, PSs.nox (pss_one (ps_ret (L2.pe_and (pe_callB (isiK (K := K) rfl) rfl G.g_isinstance (by rfl) (pa_cons (pv 0) (pa_cons (pe_bltn (v := .ty "int") rfl G.g_int (by rfl) rfl) pa_nil))) (pe_one (pe_not (pe_callB (isiK (K := K) rfl) rfl G.g_isinstance (by rfl) (pa_cons (pv 0) (pa_cons (pe_bltn (v := .ty "bool") rfl G.g_bool (by rfl) rfl) pa_nil)))))))), ?_⟩))
  · obtain ⟨i, rfl, _⟩ := h
    rfl
  · obtain ⟨i, rfl, k⟩ := h
    refine ⟨_, rfl, .int i, .ty "int", .type "int", .type "int", true, rfl, .ty _, .base (.int i), kit_ty (by decide +kernel), true, rfl, ?_⟩
    exact ⟨_, rfl, .int i, .ty "bool", .type "int", .type "bool", false, rfl, .ty _, .base (.int i), kit_ty (by decide +kernel), false, rfl, k _ (Ex.refl _)⟩
abbrev s_is_row : Stmt := top 8
theorem sc_is_row : FnScope ["thing"] ["thing"] (defScope s_is_row) := ⟨rfl, rfl, rfl, by decide +kernel, rfl, by decide +kernel, by decide +kernel⟩
def spIsRow : Sp := fun vs H Q _ => ∃ (a : Addr) (xs : List V), vs = [.ref a] ∧ (H a = some (.lst xs) ∨ H a = some (.tup xs)) ∧ ∀ H', Ex H H' → Q (.bl true) H'
theorem ok_is_row (G : Gz mg) (D : Df K mg "is_row" s_is_row f fd ["thing"]) : Callee P w K mg base CXn 1 "is_row" 1 spIsRow := by
  refine D.callee (D.fn.ok sc_is_row (fun vs H Q E h => ?_) (fun cdv A outer s H vs Q E hr h => ⟨_, PSs.nox (pss_one (ps_ret (pe_callB call_isiT rfl G.g_isinstance (by rfl) (pa_cons (pv 0) (pa_cons (pe_tup (pa_cons (pe_bltn (v := .ty "list") rfl G.g_list (by rfl) rfl) (pa_cons (pe_bltn (v := .ty "tuple") rfl G.g_tuple (by rfl) rfl) pa_nil))) pa_nil))))), ?_⟩))
  · obtain ⟨i, _, rfl, _⟩ := h
    rfl
  · obtain ⟨a, xs, rfl, hx, k⟩ := h
    refine ⟨_, rfl, (by decide), fun p hp => ?_⟩
    have e1 : Ex H (upd H p (.tup [.ty "list", .ty "tuple"])) := Ex.new hp
    rcases hx with hx | hx
    · exact ⟨.ref a, p, _, .type "list", [.type "list", .type "tuple"], true, rfl, upd_same, .cons (.ty _) (.cons (.ty _) .nil), .base (.lst (e1 _ _ hx)), kitAny_cons (kit_ty (r := true) (by decide +kernel)) (fun z => nomatch z) (fun _ => rfl), k _ e1⟩
    · exact ⟨.ref a, p, _, .type "tuple", [.type "list", .type "tuple"], true, rfl, upd_same, .cons (.ty _) (.cons (.ty _) .nil), .base (.tup (e1 _ _ hx)),
        kitAny_cons (kit_ty (r := false) (by decide +kernel)) (fun _ => kitAny_cons (kit_ty (r := true) (by decide +kernel)) (fun z => nomatch z) (fun _ => rfl)) (fun z => nomatch z), k _ e1⟩
abbrev s_is_row_of : Stmt := top 9
theorem sc_is_row_of : FnScope ["thing", "least", "most"] ["thing", "least", "most"] (defScope s_is_row_of) := ⟨rfl, rfl, rfl, by decide +kernel, rfl, by decide +kernel, by decide +kernel⟩
def spIsRowOf : Sp := fun vs H Q _ => ∃ (a : Addr) (xs : List V) (l m : Int), vs = [.ref a, .int l, .int m] ∧ (H a = some (.lst xs) ∨ H a = some (.tup xs)) ∧ ∀ H', Ex H H' → Q (.bl (decide (l ≤ xs.length) && decide ((xs.length : Int) ≤ m))) H'
theorem ok_is_row_of (G : Gz mg) (D : Df K mg "is_row_of" s_is_row_of f fd ["thing", "least", "most"]) (c_is_row : Callee P w K mg base CXn 1 "is_row" 1 spIsRow) : Callee P w K mg base CXn 2 "is_row_of" 3 spIsRowOf := by
  refine D.callee (D.fn.ok sc_is_row_of (fun vs H Q E h => ?_) (fun cdv A outer s H vs Q E hr h => ⟨_, PSs.nox (pss_one (ps_ret (L2.pe_and (pe_cl (E := En) c_is_row (hr.mono (by decide)) rfl passN (pa_cons (pv 0) pa_nil)) (pe_one (pe_chain op_le op_le (pv 1) (pe_callB (lenK (K := K) rfl) rfl G.g_len PySem.boot_len (pa_cons (pv 0) pa_nil)) (pv 2)))))), ?_⟩))
  · obtain ⟨i, _, _, _, rfl, _⟩ := h
    rfl
  · obtain ⟨a, xs, l, m, rfl, hx, k⟩ := h
    refine ⟨_, rfl, a, xs, rfl, hx, fun H1 e1 => ⟨true, rfl, ?_⟩⟩
    have hx1 : LenV K (.ref a) H1 xs.length := hx.elim (fun z => .inl ⟨xs, sq_of (e1 _ _ z), rfl⟩) fun z => .inr ⟨xs, st_of (e1 _ _ z), rfl⟩
    refine ⟨_, rfl, _, rfl, _, _, rfl, hx1, l, _, rfl, rfl, decide (l ≤ (xs.length : Int)), rfl, ?_⟩
    cases hd : decide (l ≤ (xs.length : Int)) with
    | false =>
      have q := k H1 e1
      rw [hd] at q
      exact q
    | true =>
      have q := k H1 e1
      rw [hd] at q
      exact ⟨_, rfl, _, _, rfl, rfl, q⟩
abbrev s_is_name : Stmt := top 10
theorem sc_is_name : FnScope ["thing", "letter"] ["thing"] (defScope s_is_name) := ⟨rfl, rfl, rfl, by decide +kernel, rfl, by decide +kernel, by decide +kernel⟩
def IsNm (z : Str) : Prop := 1 ≤ z.length ∧ z.length ≤ 10 ∧ ∀ c ∈ z.cps.toList, 97 ≤ c ∧ c ≤ 122
def spIsName : Sp := fun vs H Q _ => ∃ z : Str, vs = [.str z] ∧ IsNm z ∧ ∀ H', Ex H H' → Q (.bl true) H'
theorem ok_is_name (G : Gz mg) (gc : ∃ t, mg "MOST_LETTERS" = some (.int 10 t)) (D : Df K mg "is_name" s_is_name f fd ["thing"]) : Callee P w K mg base CXn 1 "is_name" 1 spIsName := by
  obtain ⟨tc, g_MOST_LETTERS⟩ := gc
  have r_MOST_LETTERS : RelV (.int 10) (.int 10 tc) := ⟨_, rfl⟩
  refine D.callee (D.fn.ok sc_is_name (fun vs H Q E h => ?_) (fun cdv A outer s H vs Q E hr h => ⟨_, PSs.nox (pss_cons (ps_if (PW.pt (pw_or (pt_not (pt_val (pe_callB (isiK (K := K) rfl) rfl G.g_isinstance (by rfl) (pa_cons (pv 0) (pa_cons (pe_bltn (v := .ty "str") rfl G.g_str (by rfl) rfl) pa_nil))))) (pw_or1 (pt_not (pt_chain op_le op_le pe_int (pe_callB (lenK (K := K) rfl) rfl G.g_len PySem.boot_len (pa_cons (pv 0) pa_nil)) (pe_glob rfl g_MOST_LETTERS r_MOST_LETTERS)))))) (pss_one (ps_ret pe_bl)) pss_nil) (pss_one (ps_ret (pe_callB (cr_all rfl) rfl G.g_all (by rfl) (pa_cons (pe_lc (own := [("letter", 1)]) rfl sc_is_name.nd (pi_str (pv 0)) (BlkOk.mk (N := ["thing", "letter"]) (sc := defScope s_is_name) rfl (by decide +kernel) (by decide +kernel) (by decide +kernel) (by decide +kernel)) (fun _ _ _ _ _ => (pg_name (i := 1) sc_is_name.nd rfl (Or.inl rfl))) (fun _ _ _ _ _ => pts_nil) (fun _ _ _ _ _ => (pe_chain op_le_str op_le_str pe_str (pv 1) pe_str))) pa_nil))))), ?_⟩))
  · obtain ⟨i, rfl, _⟩ := h
    rfl
  · obtain ⟨z, rfl, ⟨h1, h10, hc⟩, k⟩ := h
    refine ⟨_, rfl, .str z, .ty "str", .type "str", .type "str", true, rfl, .ty _, .base (.str z), kit_ty (by decide +kernel), true, rfl, ?_⟩
    have hl : LenV K (.str z) H z.length := ⟨Nat.le_trans h10 (by decide), rfl⟩
    refine iteF ⟨_, rfl, .str z, z.length, rfl, hl, 1, (z.length : Int), rfl, rfl, decide ((1 : Int) ≤ (z.length : Int)), rfl, ?_⟩
    rw [decide_eq_true (show (1 : Int) ≤ (z.length : Int) by omega)]
    refine ⟨(z.length : Int), 10, rfl, rfl, decide ((z.length : Int) ≤ 10), rfl, ?_⟩
    rw [decide_eq_true (show (z.length : Int) ≤ 10 by omega)]
    refine iteF ?_
    refine ⟨.str z, rfl, z, rfl, fun D hD => ?_⟩
    refine lc_ev (f := fun _ => true) (v := fun _ => .bl true) st_s (by rw [chs_len]; omega) (fun x => rfl) hD (fun x _ H1 e Q q => q H1 (Ex.refl _)) (fun x hx _ H1 e Q q => ?_) (fun H' e hd => ?_)
    · obtain ⟨c, hm, rfl⟩ : ∃ c, c ∈ z.cps.toList ∧ V.str ⟨#[c]⟩ = x := by unfold chs at hx; simpa using hx
      obtain ⟨g1, g2⟩ := hc c hm
      refine ⟨_, rfl, (Str.ofString "a"), ⟨#[c]⟩, rfl, rfl, _, rfl, ?_⟩
      have e1 : (!decide ((⟨#[c]⟩ : Str).cps.toList < (Str.ofString "a").cps.toList)) = true := by
        have : (Str.ofString "a").cps.toList = [97] := by decide +kernel
        rw [this]
        simp [List.cons_lt_cons_iff]
        omega
      rw [e1]
      refine ⟨⟨#[c]⟩, (Str.ofString "z"), rfl, rfl, ?_⟩
      have e2 : (!decide ((Str.ofString "z").cps.toList < (⟨#[c]⟩ : Str).cps.toList)) = true := by
        have : (Str.ofString "z").cps.toList = [122] := by decide +kernel
        rw [this]
        simp [List.cons_lt_cons_iff]
        omega
      rw [e2]
      exact q H1 (Ex.refl _)
    · refine ⟨D, (chs z).map fun _ => true, rfl, sq_of ?_, ?_⟩
      · rw [hd, List.filter_eq_self.mpr (fun _ _ => rfl), List.map_map]
        rfl
      · have e3 : ((chs z).map fun _ => true).all id = true := by simp
        rw [e3]
        exact k H' e
abbrev s_is_state : Stmt := top 11
theorem sc_is_state : FnScope ["thing"] ["thing"] (defScope s_is_state) := ⟨rfl, rfl, rfl, by decide +kernel, rfl, by decide +kernel, by decide +kernel⟩
def spIsState : Sp := fun vs H Q _ => ∃ i : Int, vs = [.int i] ∧ 0 ≤ i ∧ i ≤ 99 ∧ ∀ H', Ex H H' → Q (.bl true) H'
theorem ok_is_state (G : Gz mg) (gc : ∃ t, mg "GREATEST_STATE" = some (.int 99 t)) (D : Df K mg "is_state" s_is_state f fd ["thing"]) (c_is_integer : Callee P w K mg base CXn 1 "is_integer" 1 spIsInteger) : Callee P w K mg base CXn 2 "is_state" 1 spIsState := by
  obtain ⟨tc, g_GREATEST_STATE⟩ := gc
  have r_GREATEST_STATE : RelV (.int 99) (.int 99 tc) := ⟨_, rfl⟩
  refine D.callee (D.fn.ok sc_is_state (fun vs H Q E h => ?_) (fun cdv A outer s H vs Q E hr h => ⟨_, PSs.nox (pss_one (ps_ret (L2.pe_and (pe_cl (E := En) c_is_integer (hr.mono (by decide)) rfl passN (pa_cons (pv 0) pa_nil)) (pe_one (pe_chain op_le op_le pe_int (pv 0) (pe_glob rfl g_GREATEST_STATE r_GREATEST_STATE)))))), ?_⟩))
  · obtain ⟨i, rfl, _⟩ := h
    rfl
  · obtain ⟨i, rfl, h0, h9, k⟩ := h
    refine ⟨_, rfl, i, rfl, fun H1 e1 => ⟨true, rfl, ?_⟩⟩
    refine ⟨_, rfl, 0, i, rfl, rfl, decide ((0 : Int) ≤ i), rfl, ?_⟩
    rw [decide_eq_true h0]
    refine ⟨i, 99, rfl, rfl, ?_⟩
    show Q (.bl (decide (i ≤ 99))) H1
    rw [decide_eq_true h9]
    exact k H1 e1
end
end WK

set_option Elab.async false
set_option linter.all false
set_option maxRecDepth 100000
set_option maxHeartbeats 4000000
namespace WK
open PySem PySem.Spec PyProof.Rows L2 WW Evl
def StepAt (H : Hp) (v : V) (t : Stp) : Prop := ∃ a, v = .ref a ∧ H a = some (.tup [.int t.1, .str t.2.1, .int t.2.2])
def Rw (H : Hp) (xs : List V) (ts : List Stp) : Prop := Paired (StepAt H) xs ts
def GoodStep (t : Stp) : Prop := 0 ≤ t.1 ∧ t.1 ≤ 99 ∧ IsNm t.2.1 ∧ 0 ≤ t.2.2 ∧ t.2.2 ≤ 99
/-- the steps before it that begin where it does -/
def cnt (t : Stp) (ts : List Stp) : Nat := (ts.filter fun u => u.1 == t.1).length
theorem ok_of_nm {z : Str} (h : IsNm z) : PyData.strOk z = true := by
  unfold PyData.strOk
  rw [Array.all_eq_true_iff_forall_mem]
  intro c hc
  have := h.2.2 c (by simpa using hc)
  exact decide_eq_true (by omega)
theorem GoodStep.ok {t : Stp} (h : GoodStep t) : OkS t := ok_of_nm h.2.2.1
structure GoodRow (ts : List Stp) : Prop where
  least : 1 ≤ ts.length
  most : ts.length ≤ 20
  good : ∀ t ∈ ts, GoodStep t
  nd : ts.Nodup
  few : ∀ t ∈ ts, cnt t ts ≤ 3
theorem Rw.ex {H H' : Hp} {xs : List V} {ts : List Stp} (e : Ex H H') (h : Rw H xs ts) : Rw H' xs ts := Paired.mapP h fun v t ⟨a, e1, e2⟩ => ⟨a, e1, e _ _ e2⟩
theorem Rw.len {H : Hp} {xs : List V} {ts : List Stp} (h : Rw H xs ts) : xs.length = ts.length := Paired.length h
theorem Rw.at {H : Hp} : ∀ {xs : List V} {ts : List Stp} {i : Nat} {x : V}, Rw H xs ts → xs[i]? = some x → ∃ t, ts[i]? = some t ∧ StepAt H x t
  | _, _, i, _, .nil, e => by simp at e
  | _, _, 0, _, .cons g _, e => by simp at e; subst e; exact ⟨_, rfl, g⟩
  | _, _, i + 1, _, .cons _ r, e => by simpa using Rw.at r (by simpa using e)
theorem Rw.take {H : Hp} : ∀ {xs : List V} {ts : List Stp} (n : Nat), Rw H xs ts → Rw H (xs.take n) (ts.take n)
  | _, _, 0, _ => by simp; exact .nil
  | _, _, n + 1, .nil => by simp; exact .nil
  | _, _, n + 1, .cons g r => by simp only [List.take_succ_cons]; exact .cons g (Rw.take n r)
theorem StepAt.dp {K : PySem.W.Frag} {H : Hp} {v : V} {t : Stp} (h : StepAt H v t) : Dp K H v (encS t) := by
  obtain ⟨a, rfl, ha⟩ := h
  exact .tup (st_of ha) (.cons (.int _) (.cons (.str _) (.cons (.int _) .nil)))
theorem Rw.dps {K : PySem.W.Frag} {H : Hp} : ∀ {xs : List V} {ts : List Stp}, Rw H xs ts → DpAll K H xs (ts.map encS)
  | _, _, .nil => .nil
  | _, _, .cons g r => .cons g.dp (Rw.dps r)
/-- the value begins at the state i -/
def hit (H : Hp) (i : Int) : V → Bool
  | .ref b => (match H b with
    | some (.tup (.int j :: _)) => j == i
    | _ => false)
  | _ => false
theorem hit_at {H : Hp} {v : V} {t : Stp} {i : Int} (h : StepAt H v t) : hit H i v = (t.1 == i) := by
  obtain ⟨a, rfl, ha⟩ := h
  show (match H a with
    | some (.tup (.int j :: _)) => j == i
    | _ => false) = (t.1 == i)
  rw [ha]
theorem hit_len {H : Hp} {i : Int} : ∀ {xs : List V} {ts : List Stp}, Rw H xs ts → (xs.filter (hit H i)).length = (ts.filter fun u => u.1 == i).length
  | _, _, .nil => rfl
  | _, _, .cons (a := x) (b := t) g r => by
    rw [List.filter_cons, List.filter_cons, hit_at g]
    have ih := hit_len (i := i) r
    cases t.1 == i <;> simp [ih]
/-- t in that row -/
theorem in_go {K : PySem.W.Frag} {H : Hp} {p : Addr} {ys : List V} {us : List Stp} {x : V} {t : Stp} {Q : VK} (hx : StepAt H x t) (hp : SqX H p ys) (hy : Rw H ys us) (ho : ∀ z ∈ us, OkS z) (ht : OkS t) (q : Q (.bl (decide (t ∈ us))) H) : rInD K x (.ref p) H Q ∨ rInDT K x (.ref p) H Q := by
  rcases hp with hp | hp
  · exact .inl ⟨encS t, us.map encS, hx.dp, .lst (sq_of hp) hy.dps, encS_shaped ht, encSs_shaped ho, by rw [encSs_any]; exact q⟩
  · exact .inr ⟨encS t, us.map encS, hx.dp, .tup (st_of hp) hy.dps, encS_shaped ht, encSs_shapedT ho, by rw [encSs_any]; exact q⟩
theorem nd_take {ts : List Stp} {i : Nat} {t : Stp} (nd : ts.Nodup) (h : ts[i]? = some t) : t ∉ ts.take i := fun m => by
  obtain ⟨j, hj⟩ := List.getElem?_of_mem m
  have hj2 : j < i ∧ ts[j]? = some t := by
    rw [List.getElem?_take] at hj
    split at hj
    · exact ⟨by assumption, hj⟩
    · cases hj
  have hi := (List.getElem?_eq_some_iff.mp h)
  have hjj := (List.getElem?_eq_some_iff.mp hj2.2)
  obtain ⟨l1, e1⟩ := hi
  obtain ⟨l2, e2⟩ := hjj
  have := (List.getElem_inj nd (h₀ := l1) (h₁ := l2)).mp (e1.trans e2.symm)
  omega
theorem cnt_take {ts : List Stp} {i : Nat} {t : Stp} (h : ts[i]? = some t) : cnt t (ts.take i) + 1 ≤ cnt t ts := by
  have e : ts = ts.take i ++ t :: ts.drop (i + 1) := by
    obtain ⟨l1, e1⟩ := List.getElem?_eq_some_iff.mp h
    rw [← e1, List.getElem_cons_drop, List.take_append_drop]
  unfold cnt
  conv => rhs; rw [e]
  rw [List.filter_append, List.length_append, List.filter_cons]
  simp
section
variable {P : Program} {w : World} {K : PySem.W.Frag} {mg : Str → Option Value} {base : Heap} {f : Addr} {fd : FuncData}
abbrev s_is_step : Stmt := top 17
theorem sc_is_step : FnScope ["thing"] ["thing"] (defScope s_is_step) := ⟨rfl, rfl, rfl, by decide +kernel, rfl, by decide +kernel, by decide +kernel⟩
def spIsStep : Sp := fun vs H Q _ => ∃ v t, vs = [v] ∧ StepAt H v t ∧ GoodStep t ∧ ∀ H', Ex H H' → Q (.bl true) H'
theorem ok_is_step (G : Gz mg) (D : Df K mg "is_step" s_is_step f fd ["thing"]) (c_is_state : Callee P w K mg base CXn 2 "is_state" 1 spIsState) (c_is_name : Callee P w K mg base CXn 1 "is_name" 1 spIsName) : Callee P w K mg base CXn 3 "is_step" 1 spIsStep := by
  refine D.callee (D.fn.ok sc_is_step (fun vs H Q E h => ?_) (fun cdv A outer s H vs Q E hr h => ⟨_, PSs.nox (pss_cons (ps_if (PW.pt (pw_or (pt_not (pt_val (pe_callB (isiK (K := K) rfl) rfl G.g_isinstance (by rfl) (pa_cons (pv 0) (pa_cons (pe_bltn (v := .ty "tuple") rfl G.g_tuple (by rfl) rfl) pa_nil))))) (pw_or1 (pt_cmpR op_ne (pe_callB (lenK (K := K) rfl) rfl G.g_len PySem.boot_len (pa_cons (pv 0) pa_nil)) pe_int (nomark _))))) (pss_one (ps_ret pe_bl)) pss_nil) (pss_one (ps_ret (L2.pe_and (pe_cl (E := En) c_is_state (hr.mono (by decide)) rfl passN (pa_cons (pe_ix (ixK (K := K) rfl) (pv 0) pe_int (fun _ _ => rfl)) pa_nil)) (L2.pe_and (pe_cl (E := En) c_is_name (hr.mono (by decide)) rfl passN (pa_cons (pe_ix (ixK (K := K) rfl) (pv 0) pe_int (fun _ _ => rfl)) pa_nil)) (pe_one (pe_cl (E := En) c_is_state (hr.mono (by decide)) rfl passN (pa_cons (pe_ix (ixK (K := K) rfl) (pv 0) pe_int (fun _ _ => rfl)) pa_nil)))))))), ?_⟩))
  · obtain ⟨_, _, rfl, _⟩ := h
    rfl
  · obtain ⟨v, t, rfl, ⟨a, rfl, ha⟩, ⟨g1, g2, g3, g4, g5⟩, k⟩ := h
    refine ⟨_, rfl, .ref a, .ty "tuple", .type "tuple", .type "tuple", true, rfl, .ty _, .base (.tup ha), kit_ty (by decide +kernel), true, rfl, ?_⟩
    refine iteF ⟨_, rfl, .ref a, 3, rfl, .inr ⟨_, st_of ha, rfl⟩, rfl, false, ?_, iteF ?_⟩
    · show V.bl (!decide (V.int 3 = V.int 3)) = V.bl false
      rw [decide_eq_true rfl]
      rfl
    refine ⟨_, rfl, .inr (.inl ⟨a, _, 0, _, rfl, rfl, st_of ha, (by rfl), t.1, rfl, g1, g2, fun H1 e1 => ⟨true, rfl, iteT ?_⟩⟩)⟩
    refine ⟨_, rfl, .inr (.inl ⟨a, _, 1, _, rfl, rfl, st_of (e1 _ _ ha), (by rfl), t.2.1, rfl, g3, fun H2 e2 => ⟨true, rfl, iteT ?_⟩⟩)⟩
    exact ⟨_, rfl, .inr (.inl ⟨a, _, 2, _, rfl, rfl, st_of (e2 _ _ (e1 _ _ ha)), (by rfl), t.2.2, rfl, g4, g5, fun H3 e3 => k _ (e1.trans (e2.trans e3))⟩)⟩
abbrev s_is_one_too_many : Stmt := top 18
theorem sc_is_one_too_many : FnScope ["step", "earlier", "one"] ["step", "earlier"] (defScope s_is_one_too_many) := ⟨rfl, rfl, rfl, by decide +kernel, rfl, by decide +kernel, by decide +kernel⟩
def spTooMany : Sp := fun vs H Q _ => ∃ v t a xs ts, vs = [v, .ref a] ∧ StepAt H v t ∧ SqX H a xs ∧ Rw H xs ts ∧ ts.length ≤ 1000 ∧ ∀ H', Ex H H' → Q (.bl (decide (3 ≤ (cnt t ts : Int)))) H'
theorem ok_is_one_too_many (G : Gz mg) (gc : ∃ t, mg "MOST_STEPS_AT_ONE_STATE" = some (.int 3 t)) (D : Df K mg "is_one_too_many" s_is_one_too_many f fd ["step", "earlier"]) : Callee P w K mg base CXn 1 "is_one_too_many" 2 spTooMany := by
  obtain ⟨tc, g_MOST_STEPS_AT_ONE_STATE⟩ := gc
  have r_MOST_STEPS_AT_ONE_STATE : RelV (.int 3) (.int 3 tc) := ⟨_, rfl⟩
  refine D.callee (D.fn.ok sc_is_one_too_many (fun vs H Q E h => ?_) (fun cdv A outer s H vs Q E hr h => ⟨_, PSs.nox (pss_one (ps_ret (pe_cmpR op_ge (pe_callB (lenK (K := K) rfl) rfl G.g_len PySem.boot_len (pa_cons (pe_lc (own := [("one", 2)]) rfl sc_is_one_too_many.nd (pi_or (pi_list (pv 1)) (pi_tup (pv 1))) (BlkOk.mk (N := ["step", "earlier", "one"]) (sc := defScope s_is_one_too_many) rfl (by decide +kernel) (by decide +kernel) (by decide +kernel) (by decide +kernel)) (fun _ _ _ _ _ => (pg_name (i := 2) sc_is_one_too_many.nd rfl (Or.inl rfl))) (fun _ _ _ _ _ => (pts_one (pt_cmpR op_eq (pe_ix (ixK (K := K) rfl) (pv 2) pe_int (fun _ _ => rfl)) (pe_ix (ixK (K := K) rfl) (pv 0) pe_int (fun _ _ => rfl)) (nomark _)))) (fun _ _ _ _ _ => (pv 2))) pa_nil)) (pe_glob rfl g_MOST_STEPS_AT_ONE_STATE r_MOST_STEPS_AT_ONE_STATE) (nomark _)))), ?_⟩))
  · obtain ⟨_, _, _, _, _, rfl, _⟩ := h
    rfl
  · obtain ⟨v, t, a, xs, ts, rfl, hv, hx, hr2, hz, k⟩ := h
    have hxl := hr2.len
    refine iseq_go rfl hx fun J S D hD => ?_
    refine lc_ev (f := hit H t.1) (v := fun x => x) S (by omega) (fun x => rfl) hD (fun x mx H1 e Q q => ?_) (fun x mx _ H1 e Q q => ⟨_, rfl, q H1 (Ex.refl _)⟩) (fun H' e hd => ?_)
    · obtain ⟨i, hi⟩ := List.getElem?_of_mem mx
      obtain ⟨u, hu, b, rfl, hb⟩ := hr2.at hi
      obtain ⟨c, rfl, hc⟩ := hv
      refine ⟨_, rfl, .inr (.inl ⟨b, _, 0, _, rfl, rfl, st_of (e _ _ hb), (by rfl), ?_⟩)⟩
      refine ⟨_, rfl, .inr (.inl ⟨c, _, 0, _, rfl, rfl, st_of (e _ _ hc), (by rfl), rfl, _, rfl, ?_⟩)⟩
      have e1 : decide (V.int u.1 = V.int t.1) = hit H t.1 (.ref b) := by
        rw [hit_at (t := u) ⟨b, rfl, hb⟩, Bool.eq_iff_iff]
        simp
      rw [e1]
      exact q H1 (Ex.refl _)
    · refine ⟨.ref D, _, rfl, .inl ⟨_, sq_of hd, rfl⟩, _, _, rfl, rfl, ?_⟩
      have e2 : (((xs.filter (hit H t.1)).map fun x => x).length : Int) = (cnt t ts : Int) := by
        rw [List.length_map, hit_len hr2]
        rfl
      show Q (.bl (decide ((3 : Int) ≤ (((xs.filter (hit H t.1)).map fun x => x).length : Int)))) H'
      rw [e2]
      exact k H' e
abbrev s_check_steps : Stmt := top 16
theorem sc_check_steps : FnScope ["steps", "at", "step"] ["steps"] (defScope s_check_steps) := ⟨rfl, rfl, rfl, by decide +kernel, rfl, by decide +kernel, by decide +kernel⟩
def spCheck : Sp := fun vs H Q _ => ∃ a xs ts, vs = [.ref a] ∧ SqX H a xs ∧ Rw H xs ts ∧ GoodRow ts ∧ ∀ H', Ex H H' → Q .non H'
theorem ok_check_steps (G : Gz mg) (gc : ∃ t, mg "MOST_STEPS" = some (.int 20 t)) (D : Df K mg "check_steps" s_check_steps f fd ["steps"]) (c_is_row_of : Callee P w K mg base CXn 2 "is_row_of" 3 spIsRowOf) (c_is_step : Callee P w K mg base CXn 3 "is_step" 1 spIsStep) (c_is_one_too_many : Callee P w K mg base CXn 1 "is_one_too_many" 2 spTooMany) : Callee P w K mg base CXn 4 "check_steps" 1 spCheck := by
  obtain ⟨tc, g_MOST_STEPS⟩ := gc
  have r_MOST_STEPS : RelV (.int 20) (.int 20 tc) := ⟨_, rfl⟩
  refine D.callee (D.fn.ok sc_check_steps (fun vs H Q E h => ?_) (fun cdv A outer s H vs Q E hr h => ⟨_, PSs.nox (pss_cons (ps_if (pt_not (pt_val (pe_cl (E := En) c_is_row_of (hr.mono (by decide)) rfl passN (pa_cons (pv 0) (pa_cons pe_int (pa_cons (pe_glob rfl g_MOST_STEPS r_MOST_STEPS) pa_nil)))))) (pss_one ps_never) pss_nil) (pss_one (ps_for PassesOwn.never rfl (pi_or (pi_enum rfl G.g_enumerate (pa_cons (pv 0) pa_nil)) (pi_enumT rfl G.g_enumerate (pa_cons (pv 0) pa_nil))) (pg_tup rfl (pgs_cons (pg_name (i := 1) sc_check_steps.nd rfl (Or.inl rfl)) (pgs_cons (pg_name (i := 2) sc_check_steps.nd rfl (Or.inl rfl)) pgs_nil))) (pss_one (ps_if (PW.pt (pw_or (pt_not (pt_val (pe_cl (E := En) c_is_step (hr.mono (by decide)) rfl passN (pa_cons (pv 2) pa_nil)))) (pw_or (pt_cmpR ((op_inD (room65 hr)).or (op_inDT (room65 hr))) (pv 2) (pe_slice (sl_list.or sl_tupA) (pv 0) po_none (po_some (pv 1))) (by rfl)) (pw_or1 (pt_val (pe_cl (E := En) c_is_one_too_many (hr.mono (by decide)) rfl passN (pa_cons (pv 2) (pa_cons (pe_slice (sl_list.or sl_tupA) (pv 0) po_none (po_some (pv 1))) pa_nil)))))))) (pss_one ps_never) pss_nil))))), ?_⟩))
  · obtain ⟨_, _, _, rfl, _⟩ := h
    rfl
  · obtain ⟨a, xs, ts, rfl, hx, hw, g, k⟩ := h
    have hxl := hw.len
    have hle := g.least
    have hmo := g.most
    refine ⟨_, rfl, a, xs, 1, 20, rfl, hx, fun H1 e1 => ⟨_, rfl, ?_⟩⟩
    have e0 : (decide ((1 : Int) ≤ (xs.length : Int)) && decide ((xs.length : Int) ≤ 20)) = true := by simp; omega
    rw [e0]
    refine iteF ?_
    refine ienum_go rfl (hx.ex e1) fun J S => ?_
    refine for_go (n := xs.length) (fun i σ' H' => Ex H1 H' ∧ ∃ v1 v2, σ' = [some (.ref a), v1, v2]) ⟨Ex.refl _, none, none, rfl⟩ (fun i σ' H' hi ⟨e, _⟩ => S.go i H' e hi) (fun σ' H' ⟨e, _⟩ => S.stop H' e) ?_ (fun σ' H' ⟨e, _⟩ => k H' (e1.trans e))
    rintro i σ' H' v H'' hi ⟨e, v1, v2, rfl⟩ y
    obtain ⟨T, x, rfl, hT, rfl, hxi⟩ := S.yld i H' v H'' e hi y
    have e2 : Ex H1 (upd H' T (.tup [.int (i : Nat), x])) := e.trans (Ex.new hT)
    refine ⟨T, _, rfl, st_of upd_same, rfl, _, _, rfl, _, _, rfl, rfl, ?_⟩
    generalize upd H' T (.tup [.int (i : Nat), x]) = H2 at e2
    obtain ⟨t, hti, hst⟩ := hw.at hxi
    have mt : t ∈ ts := List.mem_of_getElem? hti
    obtain ⟨b, rfl, hb⟩ := hst
    have eH : ∀ {H3}, Ex H2 H3 → Ex H H3 := fun e3 => e1.trans (e2.trans e3)
    refine ⟨_, rfl, .ref b, t, rfl, ⟨b, rfl, eH (Ex.refl _) _ _ hb⟩, g.good t mt, fun H3 e3 => ⟨true, rfl, iteF ?_⟩⟩
    refine ⟨_, rfl, _, rfl, _, rfl, _, rfl, slx_take (hx.ex (eH e3)) (Nat.le_of_lt hi) fun q H4 e4 hq => ?_⟩
    have e24 : Ex H2 H4 := e3.trans e4
    refine in_go ⟨b, rfl, eH e24 _ _ hb⟩ hq ((hw.take i).ex (eH e24)) (fun z hz => (g.good z (List.mem_of_mem_take hz)).ok) (g.good t mt).ok ?_
    rw [decide_eq_false (nd_take g.nd hti)]
    refine ⟨false, rfl, iteF ?_⟩
    refine ⟨_, rfl, _, rfl, _, rfl, _, rfl, slx_take (hx.ex (eH e24)) (Nat.le_of_lt hi) fun q2 H5 e5 hq2 => ?_⟩
    have e25 : Ex H2 H5 := e24.trans e5
    refine ⟨.ref b, t, q2, _, _, rfl, ⟨b, rfl, eH e25 _ _ hb⟩, hq2, (hw.take i).ex (eH e25), by rw [List.length_take]; omega, fun H6 e6 => ⟨_, rfl, ?_⟩⟩
    have c1 := cnt_take hti
    have c2 := g.few t mt
    rw [decide_eq_false (show ¬ (3 : Int) ≤ (cnt t (ts.take i) : Int) by omega)]
    refine iteF ⟨e2.trans (e25.trans e6), _, _, rfl⟩
def hf (st : Int) (tp wl ol : Addr) : List (Str × V) := putF "_ordered_steps" (.ref ol) (putF "_words" (.ref wl) (putF "_steps" (.ref tp) (putF "_start" (.int st) [])))
theorem s12 : ¬ (("_start" : Str) = "_steps") := by decide +kernel
theorem s13 : ¬ (("_start" : Str) = "_words") := by decide +kernel
theorem s14 : ¬ (("_start" : Str) = "_ordered_steps") := by decide +kernel
theorem s23 : ¬ (("_steps" : Str) = "_words") := by decide +kernel
theorem s24 : ¬ (("_steps" : Str) = "_ordered_steps") := by decide +kernel
theorem s34 : ¬ (("_words" : Str) = "_ordered_steps") := by decide +kernel
section
variable {st : Int} {tp wl ol : Addr}
theorem hf1 : (hf st tp wl ol).lookup ("_start" : Str) = some (.int st) := by unfold hf; rw [lookup_putF, if_neg s14, lookup_putF, if_neg s13, lookup_putF, if_neg s12, lookup_putF, if_pos rfl]
theorem hf2 : (hf st tp wl ol).lookup ("_steps" : Str) = some (.ref tp) := by unfold hf; rw [lookup_putF, if_neg s24, lookup_putF, if_neg s23, lookup_putF, if_pos rfl]
theorem hf3 : (hf st tp wl ol).lookup ("_words" : Str) = some (.ref wl) := by unfold hf; rw [lookup_putF, if_neg s34, lookup_putF, if_pos rfl]
theorem hf4 : (hf st tp wl ol).lookup ("_ordered_steps" : Str) = some (.ref ol) := by unfold hf; rw [lookup_putF, if_pos rfl]
end
/-- what stands of a hand -/
def HandAt (C : Addr) (H : Hp) (p : Addr) (st : Int) (ts : List Stp) : Prop := ∃ dx tp wl ol xs ys, H p = some (.ins C dx (hf st tp wl ol)) ∧
  H tp = some (.tup xs) ∧ Rw H xs ts ∧ (∃ ks, ks.Nodup ∧ (∀ k, k ∈ ks ↔ k ∈ ts.map (·.2.1)) ∧ H wl = some (.lst ((sortS ks).map V.str))) ∧ H ol = some (.lst ys) ∧ Rw H ys (sortT ts)
structure Hd (K : PySem.W.Frag) (mg : Str → Option Value) (C : Addr) : Prop where
  cl : Cls K C
  at_ : mg "Hand" = some (.ref C)
  n1 : NoAttr K C "_start"
  n2 : NoAttr K C "_steps"
  n3 : NoAttr K C "_words"
  n4 : NoAttr K C "_ordered_steps"
  isa : ∀ (H : Hp) (a dx : Addr) (fs : List (Str × V)), H a = some (.ins C dx fs) → TyOf K H (.ref a) (.ref C)
/-- the word of a step -/
def wd (H : Hp) : V → Str
  | .ref b => (match H b with
    | some (.tup (_ :: .str z :: _)) => z
    | _ => Str.empty)
  | _ => Str.empty
theorem wd_at {H : Hp} {v : V} {t : Stp} (h : StepAt H v t) : wd H v = t.2.1 := by
  obtain ⟨a, rfl, ha⟩ := h
  show (match H a with
    | some (.tup (_ :: .str z :: _)) => z
    | _ => Str.empty) = t.2.1
  rw [ha]
theorem wd_map {H : Hp} : ∀ {xs : List V} {ts : List Stp}, Rw H xs ts → xs.map (wd H) = ts.map (·.2.1)
  | _, _, .nil => rfl
  | _, _, .cons g r => by rw [List.map_cons, List.map_cons, wd_at g, wd_map r]
/-- sorted(a row) -/
theorem sort_go {K : PySem.W.Frag} {H : Hp} {a : Addr} {xs : List V} {ts : List Stp} {Q : VK} (hx : SqX H a xs) (hw : Rw H xs ts) (k : ∀ ys p H', Ex H H' → H p = none → H' p = some (.lst ys) → Rw H' ys (sortT ts) → Q (.ref p) H') : rOr3 (rSortD K encS) (rSortDT K encS) [.ref a] H Q := by
  have hp : Paired (fun v b => StepAt H v b ∧ DpE K H encS v b) xs ts := Paired.mapP hw fun v b h => ⟨h, h.dp⟩
  have fin : ∀ (ys : List V) (p : Addr), Paired (StepAt H) ys (ts.mergeSort (PySem.W.dataLe false encS)) → H p = none → Q (.ref p) (upd H p (.lst ys)) := fun ys p hy hn =>
    k ys p _ (Ex.new hn) hn upd_same (Rw.ex (Ex.new hn) (show Rw H ys (sortT ts) from hy))
  rcases hx with hx | hx
  · exact .inl ⟨a, xs, ts, StepAt H, rfl, sq_of hx, hp, encS_alike, encS_sortable ts, fun b => Nat.le_trans (encS_depth b) (by decide), fin⟩
  · exact .inr ⟨a, xs, ts, StepAt H, rfl, st_of hx, hp, encS_alike, encS_sortable ts, fun b => Nat.le_trans (encS_depth b) (by decide), fin⟩
abbrev s_Hand___init__ : Stmt := inClass (top 15) 0
theorem sc_Hand___init__ : FnScope ["self", "start", "steps", "step"] ["self", "start", "steps"] (defScope s_Hand___init__) := ⟨rfl, rfl, rfl, by decide +kernel, rfl, by decide +kernel, by decide +kernel⟩
def spInit (C : Addr) : Sp := fun vs H Q _ => ∃ H0 p dx st a xs ts, vs = [.ref p, .int st, .ref a] ∧ Ex H0 H ∧ H0 p = none ∧ H p = some (.ins C dx []) ∧ SqX H0 a xs ∧ Rw H0 xs ts ∧ 0 ≤ st ∧ st ≤ 99 ∧ GoodRow ts ∧
  ∀ H', Ex H0 H' → HandAt C H' p st ts → Q .non H'
theorem ok_init {C : Addr} (G : Gz mg) (T : Hd K mg C) (D : FunD K "__init__" "Hand.__init__" (defArgs s_Hand___init__) (defBody s_Hand___init__) (defScope s_Hand___init__) [] [] f fd)
    (c_is_state : Callee P w K mg base CXn 2 "is_state" 1 spIsState) (c_check_steps : Callee P w K mg base CXn 4 "check_steps" 1 spCheck) : FnOk P w K mg base CXn 5 f fd ["self", "start", "steps"] (spInit C) := by
  refine D.ok sc_Hand___init__ (fun vs H Q E h => ?_) (fun cdv A outer s H vs Q E hr h => ⟨_, PSs.nox (pss_cons (ps_if (pt_not (pt_val (pe_cl (E := En) c_is_state (hr.mono (by decide)) rfl passN (pa_cons (pv 1) pa_nil)))) (pss_one ps_never) pss_nil) (pss_cons (ps_expr (pe_cl (E := En) c_check_steps (hr.mono (by decide)) rfl passN (pa_cons (pv 2) pa_nil))) (pss_cons (ps_fld (pv 0) (pv 1) rfl) (pss_cons (ps_fld (pv 0) (pe_callTy (tupOfK (K := K) rfl) rfl G.g_tuple (by rfl) (pa_cons (pv 2) pa_nil)) rfl) (pss_cons (ps_fld (pv 0) (pe_callB (cr_sortSS rfl hr.units) rfl G.g_sorted (by rfl) (pa_cons (pe_set (own := [("step", 3)]) (mkS _ _) rfl sc_Hand___init__.nd (pi_or (pi_list (pv 2)) (pi_tup (pv 2))) (BlkOk.mk (N := ["self", "start", "steps", "step"]) (sc := defScope s_Hand___init__) rfl (by decide +kernel) (by decide +kernel) (by decide +kernel) (by decide +kernel)) (fun _ _ _ _ _ => (pg_name (i := 3) sc_Hand___init__.nd rfl (Or.inl rfl))) (fun _ _ _ _ _ => pts_nil) (fun _ _ _ _ _ => (pe_ix (ixK (K := K) rfl) (pv 3) pe_int (fun _ _ => rfl)))) pa_nil)) rfl) (pss_one (ps_fld (pv 0) (pe_callB (cr_or (cr_sortD encS hr.units) (cr_sortDT encS rfl hr.units)) rfl G.g_sorted (by rfl) (pa_cons (pv 2) pa_nil)) rfl))))))), ?_⟩)
  · obtain ⟨_, _, _, _, _, _, _, rfl, _⟩ := h
    rfl
  · obtain ⟨H0, p, dx, st, a, xs, ts, rfl, e0, p0, hp, hx, hw, h0, h9, g, k⟩ := h
    have hxl := hw.len
    have hmo := g.most
    refine ⟨_, rfl, st, rfl, h0, h9, fun H1 e1 => ⟨true, rfl, iteF ?_⟩⟩
    refine ⟨_, rfl, a, xs, ts, rfl, hx.ex (e0.trans e1), hw.ex (e0.trans e1), g, fun H2 e2 => ?_⟩
    refine ⟨_, rfl, _, rfl, p, C, dx, [], rfl, e2 _ _ (e1 _ _ hp), T.cl, T.n1, (by decide), ?_⟩
    have E3 : Ex H0 (upd H2 p (.ins C dx (putF "_start" (.int st) []))) := ((e0.trans e1).trans e2).mut p0
    have P3 : upd H2 p (.ins C dx (putF "_start" (.int st) [])) p = some (.ins C dx (putF "_start" (.int st) [])) := upd_same
    generalize upd H2 p (.ins C dx (putF "_start" (.int st) [])) = H3 at E3 P3
    refine ⟨.ref a, rfl, ?_⟩
    dsimp only [tNil]
    refine tupof_go (K := K) (hx.ex E3) fun tp H4 e4 htp => ?_
    have P4 := e4 _ _ P3
    have ntp : tp ≠ p := fun z => by rw [z, P4] at htp; cases htp
    refine ⟨_, rfl, p, C, dx, _, rfl, P4, T.cl, T.n2, (Nat.lt_of_le_of_lt (putF_le _) (by show 1 < 1000; decide)), ?_⟩
    generalize hf2e : putF "_steps" (.ref tp) (putF "_start" (.int st) []) = f2
    have E5 : Ex H0 (upd H4 p (.ins C dx f2)) := (E3.trans e4).mut p0
    have P5 : upd H4 p (.ins C dx f2) p = some (.ins C dx f2) := upd_same
    have T5 : upd H4 p (.ins C dx f2) tp = some (.tup xs) := by rw [upd_ne ntp]; exact htp
    have l2 : f2.length ≤ 2 := by
      rw [← hf2e]
      have h1 := putF_le (f := "_steps") (y := .ref tp) (putF "_start" (.int st) [])
      have h2 := putF_le (f := "_start") (y := .int st) []
      simp at h2
      omega
    generalize upd H4 p (.ins C dx f2) = H5 at E5 P5 T5
    refine iseq_go rfl (hx.ex E5) fun J S D hD => ?_
    refine set_ev (u := wd H5) S (by omega) (fun x => rfl) hD (fun x mx H6 e6 Q6 q6 => ?_) (fun H6 ks e6 nd hm hd => ?_)
    · obtain ⟨i, hi⟩ := List.getElem?_of_mem mx
      obtain ⟨u, hu, hst⟩ := (hw.ex E5).at hi
      rw [wd_at hst] at q6
      obtain ⟨b, rfl, hb⟩ := hst
      exact ⟨_, rfl, .inr (.inl ⟨b, _, 1, _, rfl, rfl, st_of (e6 _ _ hb), (by rfl), q6 H6 (Ex.refl _)⟩)⟩
    refine ⟨D, ks, rfl, hd, fun wl hwl => ?_⟩
    have P6 := e6 _ _ P5
    have npw : p ≠ wl := ne_of_none P6 hwl
    refine ⟨_, rfl, p, C, dx, _, rfl, (by rw [upd_ne npw]; exact P6), T.cl, T.n3, (by omega), ?_⟩
    have e7 : Ex H5 (upd H6 wl (.lst ((sortS ks).map V.str))) := e6.trans (Ex.new hwl)
    have W7 : upd H6 wl (.lst ((sortS ks).map V.str)) wl = some (.lst ((sortS ks).map V.str)) := upd_same
    generalize upd H6 wl (.lst ((sortS ks).map V.str)) = H7 at e7 W7
    have E8 : Ex H0 (upd H7 p (.ins C dx (putF "_words" (.ref wl) f2))) := (E5.trans e7).mut p0
    have P8 : upd H7 p (.ins C dx (putF "_words" (.ref wl) f2)) p = some (.ins C dx (putF "_words" (.ref wl) f2)) := upd_same
    have T8 : upd H7 p (.ins C dx (putF "_words" (.ref wl) f2)) tp = some (.tup xs) := by rw [upd_ne ntp]; exact e7 _ _ T5
    have W8 : upd H7 p (.ins C dx (putF "_words" (.ref wl) f2)) wl = some (.lst ((sortS ks).map V.str)) := by rw [upd_ne npw.symm]; exact W7
    have l3 : (putF "_words" (.ref wl) f2).length ≤ 3 := Nat.le_trans (putF_le _) (by omega)
    generalize upd H7 p (.ins C dx (putF "_words" (.ref wl) f2)) = H8 at E8 P8 T8 W8
    refine ⟨.ref a, rfl, ?_⟩
    dsimp only [tNil]
    refine sort_go (K := K) (hx.ex E8) (hw.ex E8) fun ys ol H9 e9 hn hol hys => ?_
    have P9 := e9 _ _ P8
    have nol : ol ≠ p := fun z => by rw [z, P9] at hol; cases hol
    refine ⟨_, rfl, p, C, dx, _, rfl, P9, T.cl, T.n4, (by omega), ?_⟩
    have EA : Ex H0 (upd H9 p (.ins C dx (putF "_ordered_steps" (.ref ol) (putF "_words" (.ref wl) f2)))) := (E8.trans e9).mut p0
    refine k _ EA ⟨dx, tp, wl, ol, xs, ys, ?_, ?_, hw.ex EA, ⟨ks, nd, fun z => ?_, ?_⟩, ?_, ?_⟩
    · rw [upd_same, ← hf2e]
      rfl
    · rw [upd_ne ntp]; exact e9 _ _ T8
    · rw [hm z, wd_map (hw.ex E5)]
    · rw [upd_ne npw.symm]; exact e9 _ _ W8
    · rw [upd_ne nol]; exact hol
    · refine Paired.mapP hys fun v t ⟨b, e1, e2⟩ => ⟨b, e1, ?_⟩
      rw [upd_ne (fun z => by rw [z, P9] at e2; cases e2)]
      exact e2
abbrev s_Hand___eq__ : Stmt := inClass (top 15) 1
theorem sc_Hand___eq__ : FnScope ["self", "other"] ["self", "other"] (defScope s_Hand___eq__) := ⟨rfl, rfl, rfl, by decide +kernel, rfl, by decide +kernel, by decide +kernel⟩
def spEq (C : Addr) : Sp := fun vs H Q _ => ∃ p q st ts st' ts', vs = [.ref p, .ref q] ∧ HandAt C H p st ts ∧ HandAt C H q st' ts' ∧ GoodRow ts ∧ GoodRow ts' ∧
  Q (.bl (decide (st = st') && decide (sortT ts = sortT ts'))) H
theorem ok_eq {C_Hand : Addr} (G : Gz mg) (T : Hd K mg C_Hand) (D : FunD K "__eq__" "Hand.__eq__" (defArgs s_Hand___eq__) (defBody s_Hand___eq__) (defScope s_Hand___eq__) [] [] f fd) : FnOk P w K mg base CXn 1 f fd ["self", "other"] (spEq C_Hand) := by
  have g_Hand := T.at_
  refine D.ok sc_Hand___eq__ (fun vs H Q E h => ?_) (fun cdv A outer s H vs Q E hr h => ⟨_, PSs.nox (pss_one (ps_ret (L2.pe_and (pe_callB (isiK (K := K) rfl) rfl G.g_isinstance (by rfl) (pa_cons (pv 1) (pa_cons (pe_glob (v := .ref C_Hand) rfl g_Hand rfl) pa_nil))) (L2.pe_and (pe_cmpR op_eq (pe_fld (pv 0) rfl) (pe_fld (pv 1) rfl) (nomark _)) (pe_one (pe_cmpR (op_eqD hr.units) (pe_fld (pv 0) rfl) (pe_fld (pv 1) rfl) (nomark _))))))), ?_⟩)
  · obtain ⟨_, _, _, _, _, _, rfl, _⟩ := h
    rfl
  · obtain ⟨p, q, st, ts, st', ts', rfl, ⟨dx, tp, wl, ol, xs, ys, hp, ht, hw, _, ho, hy⟩, ⟨dx', tp', wl', ol', xs', ys', hp', ht', hw', _, ho', hy'⟩, g, g', k⟩ := h
    refine ⟨_, rfl, .ref q, .ref C_Hand, .ref C_Hand, .ref C_Hand, true, rfl, .own _, .base (T.isa _ _ _ _ hp'), (by unfold PySem.W.kitOne; simp), true, rfl, ?_⟩
    refine ⟨_, rfl, p, C_Hand, dx, _, _, rfl, hp, T.cl, T.n1, hf1, _, rfl, q, C_Hand, dx', _, _, rfl, hp', T.cl, T.n1, hf1, rfl, _, rfl, ?_⟩
    have e1 : decide (V.int st = V.int st') = decide (st = st') := by
      rw [Bool.eq_iff_iff]
      simp
    rw [e1]
    cases hd : decide (st = st') with
    | false =>
      rw [hd] at k
      exact k
    | true =>
      rw [hd] at k
      refine ⟨_, rfl, p, C_Hand, dx, _, _, rfl, hp, T.cl, T.n4, hf4, _, rfl, q, C_Hand, dx', _, _, rfl, hp', T.cl, T.n4, hf4, ?_⟩
      have o1 : ∀ z ∈ sortT ts, OkS z := fun z hz => (g.good z ((sortT_perm ts).mem_iff.mp hz)).ok
      have o2 : ∀ z ∈ sortT ts', OkS z := fun z hz => (g'.good z ((sortT_perm ts').mem_iff.mp hz)).ok
      refine ⟨.list ((sortT ts).map encS), .list ((sortT ts').map encS), .lst (sq_of ho) hy.dps, .lst (sq_of ho') hy'.dps, encSs_shaped o1, encSs_shaped o2, ?_⟩
      rw [encSs_eqv]
      exact k
abbrev s_Hand_start : Stmt := inClass (top 15) 2
theorem sc_Hand_start : FnScope ["self"] ["self"] (defScope s_Hand_start) := ⟨rfl, rfl, rfl, by decide +kernel, rfl, by decide +kernel, by decide +kernel⟩
def spStart (C : Addr) : Sp := fun vs H Q _ => ∃ p st ts, vs = [.ref p] ∧ HandAt C H p st ts ∧ Q (.int st) H
theorem ok_start {C : Addr} (T : Hd K mg C) (D : FunD K "start" "Hand.start" (defArgs s_Hand_start) (defBody s_Hand_start) (defScope s_Hand_start) [] [] f fd) : FnOk P w K mg base CXn 1 f fd ["self"] (spStart C) := by
  refine D.ok sc_Hand_start (fun vs H Q E h => ?_) (fun cdv A outer s H vs Q E hr h => ⟨_, PSs.nox (pss_one (ps_ret (pe_fld (pv 0) rfl))), ?_⟩)
  · obtain ⟨_, _, _, rfl, _⟩ := h
    rfl
  · obtain ⟨p, st, ts, rfl, ⟨dx, tp, wl, ol, xs, ys, hp, _⟩, k⟩ := h
    exact ⟨_, rfl, p, C, dx, _, _, rfl, hp, T.cl, T.n1, hf1, k⟩
abbrev s_Hand_steps : Stmt := inClass (top 15) 3
theorem sc_Hand_steps : FnScope ["self"] ["self"] (defScope s_Hand_steps) := ⟨rfl, rfl, rfl, by decide +kernel, rfl, by decide +kernel, by decide +kernel⟩
def spSteps (C : Addr) : Sp := fun vs H Q _ => ∃ p st ts, vs = [.ref p] ∧ HandAt C H p st ts ∧ ∀ tp xs, H tp = some (.tup xs) → Rw H xs ts → Q (.ref tp) H
theorem ok_steps {C : Addr} (T : Hd K mg C) (D : FunD K "steps" "Hand.steps" (defArgs s_Hand_steps) (defBody s_Hand_steps) (defScope s_Hand_steps) [] [] f fd) : FnOk P w K mg base CXn 1 f fd ["self"] (spSteps C) := by
  refine D.ok sc_Hand_steps (fun vs H Q E h => ?_) (fun cdv A outer s H vs Q E hr h => ⟨_, PSs.nox (pss_one (ps_ret (pe_fld (pv 0) rfl))), ?_⟩)
  · obtain ⟨_, _, _, rfl, _⟩ := h
    rfl
  · obtain ⟨p, st, ts, rfl, ⟨dx, tp, wl, ol, xs, ys, hp, ht, hw, _⟩, k⟩ := h
    exact ⟨_, rfl, p, C, dx, _, _, rfl, hp, T.cl, T.n2, hf2, k tp xs ht hw⟩
abbrev s_Hand_words : Stmt := inClass (top 15) 4
theorem sc_Hand_words : FnScope ["self"] ["self"] (defScope s_Hand_words) := ⟨rfl, rfl, rfl, by decide +kernel, rfl, by decide +kernel, by decide +kernel⟩
def spWords (C : Addr) : Sp := fun vs H Q _ => ∃ p st ts, vs = [.ref p] ∧ HandAt C H p st ts ∧ ∀ l ks H', Ex H H' → ks.Nodup → (∀ k, k ∈ ks ↔ k ∈ ts.map (·.2.1)) → H' l = some (.lst ((sortS ks).map V.str)) → Q (.ref l) H'
theorem ok_words {C : Addr} (G : Gz mg) (T : Hd K mg C) (D : FunD K "words" "Hand.words" (defArgs s_Hand_words) (defBody s_Hand_words) (defScope s_Hand_words) [] [] f fd) : FnOk P w K mg base CXn 1 f fd ["self"] (spWords C) := by
  refine D.ok sc_Hand_words (fun vs H Q E h => ?_) (fun cdv A outer s H vs Q E hr h => ⟨_, PSs.nox (pss_one (ps_ret (pe_callTy (listOfK (K := K) rfl) rfl G.g_list (by rfl) (pa_cons (pe_fld (pv 0) rfl) pa_nil)))), ?_⟩)
  · obtain ⟨_, _, _, rfl, _⟩ := h
    rfl
  · obtain ⟨p, st, ts, rfl, ⟨dx, tp, wl, ol, xs, ys, hp, ht, hw, ⟨ks, nd, hm, hl⟩, _⟩, k⟩ := h
    exact ⟨_, rfl, p, C, dx, _, _, rfl, hp, T.cl, T.n3, hf3, wl, _, rfl, .inl (sq_of hl), fun l hn => k l ks _ (Ex.new hn) nd hm upd_same⟩
end
end WK

set_option Elab.async false
set_option linter.all false
set_option maxRecDepth 100000
set_option maxHeartbeats 4000000
namespace WK
open PySem PySem.Spec PyProof.Rows L2 WW Evl
/-- the pool stands at p -/
def Pool (H : Hp) (p : Addr) : Prop := ∃ (g s : Addr) (n k : Int) (gs ss : List Int), H p = some (.lst [.ref g, .ref s, .int n, .int k]) ∧ g ≠ p ∧ s ≠ p ∧ 0 ≤ n ∧ 0 ≤ k ∧
  H g = some (.lst (gs.map V.int)) ∧ (∀ x ∈ gs, 0 ≤ x) ∧ gs.length ≤ 63 ∧ H s = some (.lst (ss.map V.int)) ∧ (∀ x ∈ ss, 0 ≤ x ∧ x < 1000003) ∧ ss.length ≤ 63
/-- all but the pool is kept -/
def K0 (p : Addr) (H H' : Hp) : Prop := ∀ b o, b ≠ p → H b = some o → H' b = some o
/-- b is no part of the pool -/
def Apart (H : Hp) (p b : Addr) : Prop := ∀ (g s : Addr) (n k : V), H p = some (.lst [.ref g, .ref s, n, k]) → g ≠ b ∧ s ≠ b
structure Kp (p : Addr) (H H' : Hp) : Prop where
  k : K0 p H H'
  a : ∀ b, b ≠ p → H b ≠ none → Apart H p b → Apart H' p b
theorem K0.refl (p : Addr) (H : Hp) : K0 p H H := fun _ _ _ h => h
theorem K0.trans {p : Addr} {H H1 H2 : Hp} (a : K0 p H H1) (b : K0 p H1 H2) : K0 p H H2 := fun c o n h => b c o n (a c o n h)
theorem K0.ex {p : Addr} {H H' : Hp} (e : Ex H H') : K0 p H H' := fun b o _ h => e b o h
theorem K0.new {p l : Addr} {o : HO} {H H' : Hp} (a : K0 p H H') (hl : H' l = none) : K0 p H (upd H' l o) := a.trans (K0.ex (Ex.new hl))
theorem K0.put {p : Addr} {o : HO} {H H' : Hp} (a : K0 p H H') : K0 p H (upd H' p o) := fun b u n h => by
  rw [upd_ne n]
  exact a b u n h
theorem some_ne {α : Type} {o : Option α} {x : α} (h : o = some x) : o ≠ none := fun z => by rw [h] at z; cases z
theorem Kp.refl (p : Addr) (H : Hp) : Kp p H H := ⟨K0.refl p H, fun _ _ _ h => h⟩
theorem Kp.trans {p : Addr} {H H1 H2 : Hp} (a : Kp p H H1) (b : Kp p H1 H2) : Kp p H H2 := ⟨a.k.trans b.k, fun c n h x => b.a c n (by
  cases e : H c with
  | none => exact absurd e h
  | some o => exact some_ne (a.k c o n e)) (a.a c n h x)⟩
theorem Pool.here {H : Hp} {p : Addr} (h : Pool H p) : H p ≠ none := by
  obtain ⟨g, s, n, k, gs, ss, h1, _⟩ := h
  exact some_ne h1
theorem Kp.ex {p : Addr} {H H' : Hp} (e : Ex H H') (hp : Pool H p) : Kp p H H' := ⟨K0.ex e, fun b n hb x g s n k h => by
  obtain ⟨g0, s0, n0, k0, gs, ss, h1, _⟩ := hp
  have h2 := e _ _ h1
  rw [h] at h2
  cases h2
  exact x _ _ _ _ h1⟩
theorem Kp.of {p g s g' : Addr} {n k n' k' : V} {H H' : Hp} (h1 : K0 p H H') (hp : H p = some (.lst [.ref g, .ref s, n, k])) (hp' : H' p = some (.lst [.ref g', .ref s, n', k'])) (hg : g' = g ∨ H g' = none) : Kp p H H' := ⟨h1, fun b nb hb x g2 s2 n2 k2 h => by
  rw [hp'] at h
  cases h
  obtain ⟨a1, a2⟩ := x _ _ _ _ hp
  refine ⟨?_, a2⟩
  rcases hg with rfl | hg
  · exact a1
  · intro z
    rw [← z] at hb
    exact hb hg⟩
theorem Kp.new {p l : Addr} {o : HO} {H H' : Hp} (a : Kp p H H') (hP : Pool H' p) (hl : H' l = none) : Kp p H (upd H' l o) := a.trans (Kp.ex (Ex.new hl) hP)
/-- a thing that came behind H changes -/
theorem Kp.mut {p D : Addr} {o : HO} {H H' : Hp} (a : Kp p H H') (hD : H D = none) (nD : D ≠ p) : Kp p H (upd H' D o) := ⟨fun b u n h => by
    rw [upd_ne (ne_of_none h hD)]
    exact a.k b u n h, fun b nb hb x g s n k h => by
    rw [upd_ne nD.symm] at h
    exact a.a b nb hb x g s n k h⟩
theorem Pool.ex {p : Addr} {H H' : Hp} (e : Ex H H') (h : Pool H p) : Pool H' p := by
  obtain ⟨g, s, n, k, gs, ss, h1, h2, h3, h4, h5, h6, h7, h8, h9, h10, h11⟩ := h
  exact ⟨g, s, n, k, gs, ss, e _ _ h1, h2, h3, h4, h5, e _ _ h6, h7, h8, e _ _ h9, h10, h11⟩
theorem Pool.mut {p D : Addr} {o : HO} {H : Hp} (h : Pool H p) (nD : D ≠ p) (x : Apart H p D) : Pool (upd H D o) p := by
  obtain ⟨g, s, n, k, gs, ss, h1, h2, h3, h4, h5, h6, h7, h8, h9, h10, h11⟩ := h
  obtain ⟨a1, a2⟩ := x _ _ _ _ h1
  exact ⟨g, s, n, k, gs, ss, by rw [upd_ne nD.symm]; exact h1, h2, h3, h4, h5, by rw [upd_ne a1]; exact h6, h7, h8, by rw [upd_ne a2]; exact h9, h10, h11⟩
/-- what is new is no part of the pool -/
theorem Apart.new {p D : Addr} {o : HO} {H : Hp} (h : Pool H p) (hD : H D = none) : D ≠ p ∧ Apart (upd H D o) p D := by
  obtain ⟨g, s, n, k, gs, ss, h1, h2, h3, h4, h5, h6, h7, h8, h9, h10, h11⟩ := h
  have nD : p ≠ D := ne_of_none h1 hD
  refine ⟨nD.symm, fun g2 s2 n2 k2 e => ?_⟩
  rw [upd_ne nD, h1] at e
  cases e
  exact ⟨ne_of_none h6 hD, ne_of_none h9 hD⟩
theorem Apart.mut {p D b : Addr} {o : HO} {H : Hp} (nD : D ≠ p) (x : Apart H p b) : Apart (upd H D o) p b := fun g s n k h => by
  rw [upd_ne nD.symm] at h
  exact x g s n k h
/-- what is free behind was free before -/
theorem Kp.free {p D : Addr} {H H' : Hp} (a : Kp p H H') (h : Pool H' p) (hD : H' D = none) : H D = none ∧ D ≠ p := by
  have nD : D ≠ p := fun z => h.here (z ▸ hD)
  refine ⟨?_, nD⟩
  cases e : H D with
  | none => rfl
  | some o =>
    rw [a.k D o nD e] at hD
    cases hD
def absV : V → V
  | .int i => .int (if i < 0 then -i else i)
  | v => v
def geV : V → Bool
  | .int i => decide ((10 : Int) ^ 18 ≤ i)
  | _ => false
def ltV : V → Bool
  | .int i => decide (i < (10 : Int) ^ 18)
  | _ => false
def modV : V → V
  | .int i => .int (i % 1000003)
  | v => v
section
variable {P : Program} {w : World} {K : PySem.W.Frag} {mg : Str → Option Value} {base : Heap} {f : Addr} {fd : FuncData}
abbrev s__law_pool : Stmt := top 20
theorem sc__law_pool : FnScope ["_law_script", "_law_cells", "_law_cell", "_law_great", "_law_small"] ["_law_script"] (defScope s__law_pool) := ⟨rfl, rfl, rfl, by decide +kernel, rfl, by decide +kernel, by decide +kernel⟩
def spPool (K : PySem.W.Frag) : Sp := fun vs H Q _ => ∃ (a : Addr) (ns : List Int), vs = [.ref a] ∧ SqL K H a (ns.map V.int) ∧ ∀ p H', Ex H H' → H p = none → Pool H' p → Q (.ref p) H'
theorem ok_pool (G : Gz mg) (D : Df K mg "_law_pool" s__law_pool f fd ["_law_script"]) : Callee P w K mg base CXn 1 "_law_pool" 1 (spPool K) := by
  refine D.callee (D.fn.ok sc__law_pool (fun vs H Q E h => ?_) (fun cdv A outer s H vs Q E hr h => ⟨_, PSs.nox (pss_cons (ps_setLc (i := 1) (y := "_law_cells") (own := [("_law_cell", 2)]) rfl sc__law_pool.nd rfl rfl rfl (pi_list (pe_slice sl_list (pv 0) po_none (po_some pe_int))) (BlkOk.mk (N := ["_law_script", "_law_cells", "_law_cell", "_law_great", "_law_small"]) (sc := defScope s__law_pool) rfl (by decide +kernel) (by decide +kernel) (by decide +kernel) (by decide +kernel)) (fun _ _ _ _ _ => (pg_name (i := 2) sc__law_pool.nd rfl (Or.inl rfl))) (fun _ _ _ _ _ => pts_nil) (fun _ _ _ _ _ => (pe_callB call_abs rfl G.g_abs (by rfl) (pa_cons (pe_callTy call_int1 rfl G.g_int (by rfl) (pa_cons (pv 2) pa_nil)) pa_nil)))) (pss_cons (ps_setLc (i := 3) (y := "_law_great") (own := [("_law_cell", 2)]) rfl sc__law_pool.nd rfl rfl rfl (pi_list (pv 1)) (BlkOk.mk (N := ["_law_script", "_law_cells", "_law_cell", "_law_great", "_law_small"]) (sc := defScope s__law_pool) rfl (by decide +kernel) (by decide +kernel) (by decide +kernel) (by decide +kernel)) (fun _ _ _ _ _ => (pg_name (i := 2) sc__law_pool.nd rfl (Or.inl rfl))) (fun _ _ _ _ _ => (pts_one (pt_cmpR op_ge (pv 2) (pe_op op_pow pe_int pe_int) (nomark _)))) (fun _ _ _ _ _ => (pv 2))) (pss_cons (ps_setLc (i := 4) (y := "_law_small") (own := [("_law_cell", 2)]) rfl sc__law_pool.nd rfl rfl rfl (pi_list (pv 1)) (BlkOk.mk (N := ["_law_script", "_law_cells", "_law_cell", "_law_great", "_law_small"]) (sc := defScope s__law_pool) rfl (by decide +kernel) (by decide +kernel) (by decide +kernel) (by decide +kernel)) (fun _ _ _ _ _ => (pg_name (i := 2) sc__law_pool.nd rfl (Or.inl rfl))) (fun _ _ _ _ _ => (pts_one (pt_cmpR op_lt (pv 2) (pe_op op_pow pe_int pe_int) (nomark _)))) (fun _ _ _ _ _ => (pe_op op_mod (pe_callTy call_int1 rfl G.g_int (by rfl) (pa_cons (pv 2) pa_nil)) pe_int))) (pss_one (ps_ret (pe_lst (pa_cons (pv 3) (pa_cons (pv 4) (pa_cons pe_int (pa_cons pe_int pa_nil)))))))))), ?_⟩))
  · obtain ⟨_, _, rfl, _⟩ := h
    rfl
  · obtain ⟨a, ns, rfl, hS, k⟩ := h
    refine ⟨.ref a, rfl, 63, rfl, a, _, rfl, hS, fun p hp => ⟨p, rfl, ⟨_, sq_of upd_same⟩, fun D hD => ?_⟩⟩
    have ec : cutV (ns.map V.int) none (some 63) = (ns.take 63).map V.int := by
      have e := cut_take (ns.map V.int) 63
      rw [← List.map_take] at e
      exact e
    rw [ec] at hD ⊢
    have l63 : ((ns.take 63).map V.int).length ≤ 63 := by rw [List.length_map, List.length_take]; omega
    refine lc_ev (f := fun _ => true) (v := absV) (st_l (sq_of upd_same)) (by omega) (fun x => rfl) hD (fun x _ H1 e Q q => q H1 (Ex.refl _)) (fun x hx _ H1 e Q q => ?_) (fun H1 e1 hd1 => ?_)
    · obtain ⟨i, _, rfl⟩ := List.mem_map.mp hx
      exact ⟨_, rfl, .inl ⟨i, rfl, i, rfl, q H1 (Ex.refl _)⟩⟩
    generalize hcs : (ns.take 63).map (fun i : Int => if i < 0 then -i else i) = cs
    have d1 : H1 D = some (.lst (cs.map V.int)) := by
      rw [hd1, List.filter_eq_self.mpr (fun _ _ => rfl), ← hcs, List.map_map, List.map_map]
      rfl
    have lcs : cs.length ≤ 63 := by rw [← hcs, List.length_map, List.length_take]; omega
    have pcs : ∀ x ∈ cs, 0 ≤ x := fun x hx => by
      rw [← hcs] at hx
      obtain ⟨i, _, rfl⟩ := List.mem_map.mp hx
      split <;> omega
    refine ⟨_, rfl, D, rfl, ⟨_, sq_of d1⟩, fun D2 hD2 => ?_⟩
    refine lc_ev (f := geV) (v := fun x => x) (st_l (sq_of d1)) (by rw [List.length_map]; omega) (fun x => rfl) hD2 (fun x hx H2 e Q q => ?_) (fun x hx _ H2 e Q q => ⟨_, rfl, q H2 (Ex.refl _)⟩) (fun H2 e2 hd2 => ?_)
    · obtain ⟨i, _, rfl⟩ := List.mem_map.mp hx
      exact ⟨_, rfl, 10, 18, rfl, rfl, ⟨by decide, by decide, by decide⟩, i, _, rfl, rfl, _, rfl, q H2 (Ex.refl _)⟩
    have d2 : H2 D2 = some (.lst ((cs.filter fun i => decide ((10 : Int) ^ 18 ≤ i)).map V.int)) := by
      rw [hd2, List.map_id'' (fun _ => rfl), List.filter_map]
      rfl
    have d12 := e2 _ _ d1
    refine ⟨_, rfl, D, rfl, ⟨_, sq_of d12⟩, fun D3 hD3 => ?_⟩
    refine lc_ev (f := ltV) (v := modV) (st_l (sq_of d12)) (by rw [List.length_map]; omega) (fun x => rfl) hD3 (fun x hx H3 e Q q => ?_) (fun x hx _ H3 e Q q => ?_) (fun H3 e3 hd3 => ?_)
    · obtain ⟨i, _, rfl⟩ := List.mem_map.mp hx
      exact ⟨_, rfl, 10, 18, rfl, rfl, ⟨by decide, by decide, by decide⟩, i, _, rfl, rfl, _, rfl, q H3 (Ex.refl _)⟩
    · obtain ⟨i, _, rfl⟩ := List.mem_map.mp hx
      exact ⟨_, rfl, .inl ⟨i, rfl, i, 1000003, rfl, rfl, (by show (0 : Int) < 1000003; decide), q H3 (Ex.refl _)⟩⟩
    have d3 : H3 D3 = some (.lst (((cs.filter fun i => decide (i < (10 : Int) ^ 18)).map fun i => i % 1000003).map V.int)) := by
      rw [hd3, List.filter_map, List.map_map, List.map_map]
      rfl
    have d23 := e3 _ _ d2
    refine ⟨_, rfl, _, rfl, (by show 4 ≤ sizeLine; decide), fun q hq => ?_⟩
    have e03 : Ex H H3 := (Ex.new hp).trans (e1.trans (e2.trans e3))
    have e04 : Ex H (upd H3 q (.lst [.ref D2, .ref D3, .int 0, .int 0])) := e03.trans (Ex.new hq)
    refine k q _ e04 (fresh_back e03 hq) ⟨D2, D3, 0, 0, (cs.filter fun i => decide ((10 : Int) ^ 18 ≤ i)), ((cs.filter fun i => decide (i < (10 : Int) ^ 18)).map fun i => i % 1000003), upd_same, ne_of_none d23 hq, ne_of_none d3 hq, Int.le_refl _, Int.le_refl _, ?_, ?_, ?_, ?_, ?_, ?_⟩
    · rw [upd_ne (ne_of_none d23 hq)]; exact d23
    · exact fun x hx => pcs x (List.mem_filter.mp hx).1
    · exact Nat.le_trans (List.length_filter_le _ _) lcs
    · rw [upd_ne (ne_of_none d3 hq)]; exact d3
    · intro x hx
      obtain ⟨i, hi, rfl⟩ := List.mem_map.mp hx
      exact ⟨Int.emod_nonneg _ (by decide), Int.emod_lt_of_pos _ (by decide)⟩
    · rw [List.length_map]
      exact Nat.le_trans (List.length_filter_le _ _) lcs
abbrev s__law_draw : Stmt := top 21
theorem sc__law_draw : FnScope ["_law_pool_here", "_law_many", "_law_great", "_law_digit", "_law_seed", "_law_number"] ["_law_pool_here", "_law_many"] (defScope s__law_draw) := ⟨rfl, rfl, rfl, by decide +kernel, rfl, by decide +kernel, by decide +kernel⟩
def spDraw : Sp := fun vs H Q _ => ∃ (p : Addr) (m : Int), vs = [.ref p, .int m] ∧ Pool H p ∧ 1 ≤ m ∧ m ≤ 1000000 ∧ ∀ d H', 0 ≤ d → d < m → Kp p H H' → Pool H' p → Q (.int d) H'
theorem ok_draw (G : Gz mg) (D : Df K mg "_law_draw" s__law_draw f fd ["_law_pool_here", "_law_many"]) : Callee P w K mg base CXn 1 "_law_draw" 2 spDraw := by
  refine D.callee (D.fn.ok sc__law_draw (fun vs H Q E h => ?_) (fun cdv A outer s H vs Q E hr h => ⟨_, PSs.nox (pss_cut (ps_if (PW.pt (pw_and (pt_cmpR op_eq (pe_ix (ixK (K := K) rfl) (pv 0) pe_int (fun _ _ => rfl)) pe_int (nomark _)) (pw_and1 (pt_cmpR op_gt (pe_callB (lenK (K := K) rfl) rfl G.g_len PySem.boot_len (pa_cons (pe_ix (ixK (K := K) rfl) (pv 0) pe_int (fun _ _ => rfl)) pa_nil)) pe_int (nomark _))))) (pss_cons (ps_set (i := 2) sc__law_draw.nd rfl (Or.inl rfl) (pe_ix (ixK (K := K) rfl) (pv 0) pe_int (fun _ _ => rfl))) (pss_one (ps_asg (pe_tup (pa_cons (pe_ix (ixK (K := K) rfl) (pv 2) pe_int (fun _ _ => rfl)) (pa_cons (pe_slice sl_list (pv 2) (po_some pe_int) po_none) pa_nil))) (pg_tup rfl (pgs_cons (pg_sub (pv 0) pe_int set_list) (pgs_cons (pg_sub (pv 0) pe_int set_list) pgs_nil)))))) pss_nil) (pss_cut (ps_if (pt_cmpR op_gt (pe_ix (ixK (K := K) rfl) (pv 0) pe_int (fun _ _ => rfl)) pe_int (nomark _)) (pss_cons (ps_asg (pe_tup (pa_cons (pe_op op_mod (pe_callTy call_int1 rfl G.g_int (by rfl) (pa_cons (pe_ix (ixK (K := K) rfl) (pv 0) pe_int (fun _ _ => rfl)) pa_nil)) (pv 1)) (pa_cons (pe_op op_fdiv (pe_ix (ixK (K := K) rfl) (pv 0) pe_int (fun _ _ => rfl)) (pv 1)) pa_nil))) (pg_tup rfl (pgs_cons (pg_name (i := 3) sc__law_draw.nd rfl (Or.inl rfl)) (pgs_cons (pg_sub (pv 0) pe_int set_list) pgs_nil)))) (pss_one (ps_ret (pv 3)))) pss_nil) (pss_cons (ps_asg (pe_op op_add (pe_ix (ixK (K := K) rfl) (pv 0) pe_int (fun _ _ => rfl)) pe_int) (pg_sub (pv 0) pe_int set_list)) (pss_cons (ps_set (i := 4) sc__law_draw.nd rfl (Or.inl rfl) (pe_ix (ixK (K := K) rfl) (pe_op op_cat (pe_ix (ixK (K := K) rfl) (pv 0) pe_int (fun _ _ => rfl)) (pe_lst (pa_cons pe_int pa_nil))) (pe_op op_mod (pe_callTy call_int1 rfl G.g_int (by rfl) (pa_cons (pe_ix (ixK (K := K) rfl) (pv 0) pe_int (fun _ _ => rfl)) pa_nil)) (pe_callB (call_max2 rfl) rfl G.g_max (by rfl) (pa_cons pe_int (pa_cons (pe_callB (lenK (K := K) rfl) rfl G.g_len PySem.boot_len (pa_cons (pe_ix (ixK (K := K) rfl) (pv 0) pe_int (fun _ _ => rfl)) pa_nil)) pa_nil)))) (fun _ _ => rfl))) (pss_cons (ps_set (i := 5) sc__law_draw.nd rfl (Or.inl rfl) (pe_op op_mod (pe_callTy call_int1 rfl G.g_int (by rfl) (pa_cons (pe_op op_mul (pe_op op_add (pe_op op_add (pv 4) (pe_op op_mul pe_int (pe_ix (ixK (K := K) rfl) (pv 0) pe_int (fun _ _ => rfl)))) pe_int) pe_int) pa_nil)) pe_int)) (pss_cons (ps_set (i := 5) sc__law_draw.nd rfl (Or.inl rfl) (pe_op op_mod (pe_callTy call_int1 rfl G.g_int (by rfl) (pa_cons (pe_op op_mul (pv 5) (pe_op op_add (pe_op op_fdiv (pv 5) pe_int) pe_int)) pa_nil)) pe_int)) (pss_cons (ps_set (i := 5) sc__law_draw.nd rfl (Or.inl rfl) (pe_op op_mod (pe_callTy call_int1 rfl G.g_int (by rfl) (pa_cons (pe_op op_mul (pv 5) (pe_op op_add (pe_op op_fdiv (pv 5) pe_int) pe_int)) pa_nil)) pe_int)) (pss_one (ps_ret (pe_op op_mod (pe_callTy call_int1 rfl G.g_int (by rfl) (pa_cons (pe_op op_fdiv (pv 5) pe_int) pa_nil)) (pv 1))))))))))), ?_⟩))
  · obtain ⟨_, _, rfl, _⟩ := h
    rfl
  · obtain ⟨p, m, rfl, hP, hm1, hm2, k⟩ := h
    refine ⟨fun σ' H' => (∃ v, σ' = [some (.ref p), some (.int m), v, none, none, none]) ∧ Pool H' p ∧ Kp p H H', ?_, ?_⟩
    · have hP0 := hP
      obtain ⟨g, s', n, kk, gs, ss, hp, gp, sp, n0, k0, hg, pg, lg, hs, ps, ls⟩ := hP
      refine ⟨_, rfl, .inl ⟨p, _, 2, _, rfl, rfl, sq_of hp, rfl, rfl, _, rfl, ?_⟩⟩
      have skip : (fun σ' H' => (∃ v, σ' = [some (V.ref p), some (V.int m), v, none, none, none]) ∧ Pool H' p ∧ Kp p H H') (start ["_law_pool_here", "_law_many", "_law_great", "_law_digit", "_law_seed", "_law_number"] [.ref p, .int m]) H := ⟨⟨none, rfl⟩, hP0, Kp.refl p H⟩
      cases hd : decide (V.int n = V.int 0) with
      | false => exact skip
      | true =>
        refine ⟨_, rfl, .inl ⟨p, _, 0, _, rfl, rfl, sq_of hp, rfl, .ref g, gs.length, rfl, .inl ⟨_, sq_of hg, by rw [List.length_map]⟩, _, _, rfl, rfl, _, rfl, ?_⟩⟩
        cases gs with
        | nil => exact skip
        | cons g0 gs =>
          have hgt : decide ((0 : Int) < (((g0 :: gs).length : Nat) : Int)) = true := decide_eq_true (by simp)
          rw [hgt]
          refine ⟨_, rfl, .inl ⟨p, _, 0, _, rfl, rfl, sq_of hp, rfl, ?_⟩⟩
          refine ⟨_, rfl, .inl ⟨g, _, 0, .int g0, rfl, rfl, sq_of hg, (show atI ((g0 :: gs).map V.int) ((0 : Nat) : Int) = some (.int g0) from atI_nat rfl), ?_⟩⟩
          refine ⟨_, rfl, 1, rfl, g, _, rfl, sq_of hg, fun l hl => ?_⟩
          have ec : cutV ((g0 :: gs).map V.int) (some 1) none = gs.map V.int := cut_drop ((g0 :: gs).map V.int) 1
          rw [ec]
          refine ⟨(by show 2 ≤ sizeLine; decide), fun T hT => ⟨T, _, rfl, st_of upd_same, rfl, _, _, rfl, ?_⟩⟩
          have npl : p ≠ l := ne_of_none hp hl
          have hp1 : upd H l (.lst (gs.map V.int)) p = some (.lst [.ref g, .ref s', .int n, .int kk]) := by rw [upd_ne npl]; exact hp
          have npT : p ≠ T := ne_of_none hp1 hT
          have nlT : l ≠ T := ne_of_none upd_same hT
          have nsl : s' ≠ l := ne_of_none hs hl
          have hs1 : upd H l (.lst (gs.map V.int)) s' = some (.lst (ss.map V.int)) := by rw [upd_ne nsl]; exact hs
          have nsT : s' ≠ T := ne_of_none hs1 hT
          refine ⟨_, rfl, p, _, 2, 2, rfl, rfl, (by rw [upd_ne npT]; exact hp1), rfl, _, _, rfl, _, rfl, p, _, 0, 0, rfl, rfl, upd_same, rfl, rfl, ⟨_, rfl⟩, ?_, ?_⟩
          · refine ⟨l, s', g0, kk, gs, ss, upd_same, npl.symm, sp, pg g0 (by simp), k0, ?_, fun x hx => pg x (by simp [hx]), by simp at lg; omega, ?_, ps, ls⟩
            · rw [upd_ne npl.symm, upd_ne npl.symm, upd_ne nlT, upd_same]
            · rw [upd_ne sp, upd_ne sp, upd_ne nsT]; exact hs1
          · exact Kp.of (K0.put (K0.put (K0.new (K0.new (K0.refl p H) hl) hT))) hp upd_same (.inr hl)
    · rintro σ' H1 ⟨⟨v, rfl⟩, ⟨g, s', n, kk, gs, ss, hp, gp, sp, n0, k0, hg, pg, lg, hs, ps, ls⟩, K1⟩
      refine ⟨fun σ' H' => (∃ v2, σ' = [some (.ref p), some (.int m), v2, none, none, none]) ∧ H' = H1, ?_, ?_⟩
      · refine ⟨_, rfl, .inl ⟨p, _, 2, _, rfl, rfl, sq_of hp, rfl, _, _, rfl, rfl, _, rfl, ?_⟩⟩
        refine ite2 (fun hn => ?_) (fun _ => ⟨⟨_, rfl⟩, rfl⟩)
        have hn0 : 0 < n := of_decide_eq_true hn
        refine ⟨_, rfl, .inl ⟨p, _, 2, _, rfl, rfl, sq_of hp, rfl, .inl ⟨n, rfl, _, rfl, n, m, rfl, rfl, (by show 0 < m; omega), ?_⟩⟩⟩
        refine ⟨_, rfl, .inl ⟨p, _, 2, _, rfl, rfl, sq_of hp, rfl, _, rfl, n, m, rfl, rfl, ⟨by omega, by omega⟩, ?_⟩⟩
        refine ⟨(by show 2 ≤ sizeLine; decide), fun T hT => ⟨T, _, rfl, st_of upd_same, rfl, _, _, rfl, ?_⟩⟩
        have npT : p ≠ T := ne_of_none hp hT
        refine ⟨_, _, rfl, _, rfl, p, _, 2, 2, rfl, rfl, (by rw [upd_ne npT]; exact hp), rfl, rfl, _, rfl, ?_⟩
        refine k _ _ (Int.emod_nonneg _ (by omega)) (Int.emod_lt_of_pos _ (by omega)) (K1.trans (Kp.of (K0.put (K0.new (K0.refl p _) hT)) hp upd_same (.inl rfl))) ?_
        refine ⟨g, s', n / m, kk, gs, ss, upd_same, gp, sp, Int.ediv_nonneg n0 (by omega), k0, ?_, pg, lg, ?_, ps, ls⟩
        · rw [upd_ne gp, upd_ne (ne_of_none hg hT)]; exact hg
        · rw [upd_ne sp, upd_ne (ne_of_none hs hT)]; exact hs
      · rintro σ' H2 ⟨⟨v2, rfl⟩, rfl⟩
        refine ⟨_, rfl, .inl ⟨p, _, 3, _, rfl, rfl, sq_of hp, rfl, kk, 1, rfl, rfl, ?_⟩⟩
        refine ⟨_, rfl, p, _, 3, 3, rfl, rfl, hp, rfl, ?_⟩
        have K3 : Kp p H (upd H2 p (.lst ([.ref g, .ref s', .int n, .int kk].set 3 (.int (kk + 1))))) := K1.trans (Kp.of (K0.put (K0.refl p _)) hp upd_same (.inl rfl))
        have hp3 : upd H2 p (.lst ([.ref g, .ref s', .int n, .int kk].set 3 (.int (kk + 1)))) p = some (.lst [.ref g, .ref s', .int n, .int (kk + 1)]) := upd_same
        have hg3 : upd H2 p (.lst ([.ref g, .ref s', .int n, .int kk].set 3 (.int (kk + 1)))) g = some (.lst (gs.map V.int)) := by rw [upd_ne gp]; exact hg
        have hs3 : upd H2 p (.lst ([.ref g, .ref s', .int n, .int kk].set 3 (.int (kk + 1)))) s' = some (.lst (ss.map V.int)) := by rw [upd_ne sp]; exact hs
        generalize upd H2 p (.lst ([.ref g, .ref s', .int n, .int kk].set 3 (.int (kk + 1)))) = H3 at K3 hp3 hg3 hs3
        have P3 : Pool H3 p := ⟨g, s', n, kk + 1, gs, ss, hp3, gp, sp, n0, by omega, hg3, pg, lg, hs3, ps, ls⟩
        -- the seed
        refine ⟨_, rfl, .inl ⟨p, _, 1, _, rfl, rfl, sq_of hp3, rfl, (by show 1 ≤ sizeLine; decide), fun b hb => ?_⟩⟩
        have e4 : Ex H3 (upd H3 b (.lst [.int 0])) := Ex.new hb
        refine ⟨s', b, _, _, rfl, rfl, e4 _ _ hs3, upd_same, (by rw [List.length_map]; exact Nat.le_trans (Nat.add_le_add_right ls 1) (by decide)), fun c hc => ?_⟩
        have e5 : Ex H3 (upd (upd H3 b (.lst [.int 0])) c (.lst (ss.map V.int ++ [.int 0]))) := e4.trans (Ex.new hc)
        have hc5 : upd (upd H3 b (.lst [.int 0])) c (.lst (ss.map V.int ++ [.int 0])) c = some (.lst (ss.map V.int ++ [.int 0])) := upd_same
        generalize upd (upd H3 b (.lst [.int 0])) c (.lst (ss.map V.int ++ [.int 0])) = H5 at e5 hc5
        have hp5 := e5 _ _ hp3
        have hs5 := e5 _ _ hs3
        have P5 : Pool H5 p := P3.ex e5
        have K5 : Kp p H H5 := K3.trans (Kp.ex e5 P3)
        refine ⟨_, rfl, .inl ⟨p, _, 3, _, rfl, rfl, sq_of hp5, rfl, .inl ⟨kk + 1, rfl, ?_⟩⟩⟩
        refine ⟨_, rfl, .inl ⟨p, _, 1, _, rfl, rfl, sq_of hp5, rfl, .ref s', ss.length, rfl, .inl ⟨_, sq_of hs5, by rw [List.length_map]⟩, 1, (ss.length : Int), rfl, ?_⟩⟩
        generalize hmx : (if ((ss.length : Nat) : Int) > 1 then ((ss.length : Nat) : Int) else 1) = mx
        have hmx1 : 1 ≤ mx ∧ mx ≤ (ss.length : Int) + 1 := by
          rw [← hmx]
          split <;> omega
        have hj0 : 0 ≤ (kk + 1) % mx := Int.emod_nonneg _ (by omega)
        have hj1 : (kk + 1) % mx < mx := Int.emod_lt_of_pos _ (by omega)
        obtain ⟨z, hz⟩ : ∃ z, (ss ++ [0])[((kk + 1) % mx).toNat]? = some z := ⟨_, List.getElem?_eq_getElem (by rw [List.length_append, List.length_singleton]; omega)⟩
        have hz2 : (ss.map V.int ++ [.int 0])[((kk + 1) % mx).toNat]? = some (V.int z) := by
          have e : ss.map V.int ++ [.int 0] = (ss ++ [0]).map V.int := by simp
          rw [e, List.getElem?_map, hz]
          rfl
        refine ⟨kk + 1, mx, rfl, rfl, (by show 0 < mx; omega), .inl ⟨c, _, _, .int z, rfl, rfl, sq_of hc5, at_of (j := ((kk + 1) % mx).toNat) (by omega) hz2, ?_⟩⟩
        -- the numbers
        refine ⟨_, rfl, _, rfl, .inl ⟨p, _, 3, _, rfl, rfl, sq_of hp5, rfl, 7919, kk + 1, rfl, rfl, .inl ⟨by decide, by decide⟩, z, _, rfl, rfl, _, 1, rfl, rfl, _, 48271, rfl, rfl, .inr ⟨by decide, by decide⟩, .inl ⟨_, rfl, _, 2147483647, rfl, rfl, (by show (0 : Int) < 2147483647; decide), ?_⟩⟩⟩
        dsimp only
        generalize h1 : (z + 7919 * (kk + 1) + 1) * 48271 % 2147483647 = n1
        have b1 : 0 ≤ n1 ∧ n1 < 2147483647 := by rw [← h1]; exact ⟨Int.emod_nonneg _ (by decide), Int.emod_lt_of_pos _ (by decide)⟩
        refine ⟨_, rfl, _, rfl, n1, 1009, rfl, rfl, ⟨by decide, by decide⟩, _, 69621, rfl, rfl, n1, _, rfl, rfl, .inl ⟨by omega, by omega⟩, .inl ⟨_, rfl, _, 2147483647, rfl, rfl, (by show (0 : Int) < 2147483647; decide), ?_⟩⟩
        dsimp only
        generalize h2 : n1 * (n1 / 1009 + 69621) % 2147483647 = n2
        have b2 : 0 ≤ n2 ∧ n2 < 2147483647 := by rw [← h2]; exact ⟨Int.emod_nonneg _ (by decide), Int.emod_lt_of_pos _ (by decide)⟩
        refine ⟨_, rfl, _, rfl, n2, 2003, rfl, rfl, ⟨by decide, by decide⟩, _, 40692, rfl, rfl, n2, _, rfl, rfl, .inl ⟨by omega, by omega⟩, .inl ⟨_, rfl, _, 2147483399, rfl, rfl, (by show (0 : Int) < 2147483399; decide), ?_⟩⟩
        exact ⟨_, rfl, _, 16, rfl, rfl, ⟨by decide, by decide⟩, .inl ⟨_, rfl, _, rfl, _, m, rfl, rfl, (by show 0 < m; omega), k _ _ (Int.emod_nonneg _ (by omega)) (Int.emod_lt_of_pos _ (by omega)) K5 P5⟩⟩
abbrev s__law_pick : Stmt := top 22
theorem sc__law_pick : FnScope ["_law_pool_here", "_law_items"] ["_law_pool_here", "_law_items"] (defScope s__law_pick) := ⟨rfl, rfl, rfl, by decide +kernel, rfl, by decide +kernel, by decide +kernel⟩
def spPick : Sp := fun vs H Q _ => ∃ (p a : Addr) (xs : List V), vs = [.ref p, .ref a] ∧ Pool H p ∧ a ≠ p ∧ (H a = some (.lst xs) ∨ H a = some (.tup xs)) ∧ xs ≠ [] ∧ xs.length ≤ 1000 ∧ ∀ x H', x ∈ xs → Kp p H H' → Pool H' p → Q x H'
theorem ok_pick (G : Gz mg) (D : Df K mg "_law_pick" s__law_pick f fd ["_law_pool_here", "_law_items"]) (c__law_draw : Callee P w K mg base CXn 1 "_law_draw" 2 spDraw) : Callee P w K mg base CXn 2 "_law_pick" 2 spPick := by
  refine D.callee (D.fn.ok sc__law_pick (fun vs H Q E h => ?_) (fun cdv A outer s H vs Q E hr h => ⟨_, PSs.nox (pss_one (ps_ret (pe_ix (ixK (K := K) rfl) (pv 1) (pe_cl (E := En) c__law_draw (hr.mono (by decide)) rfl passN (pa_cons (pv 0) (pa_cons (pe_callB (lenK (K := K) rfl) rfl G.g_len PySem.boot_len (pa_cons (pv 1) pa_nil)) pa_nil))) (fun _ _ => rfl)))), ?_⟩))
  · obtain ⟨_, _, _, rfl, _⟩ := h
    rfl
  · obtain ⟨p, a, xs, rfl, hP, nap, hx, hne, hl, k⟩ := h
    have hlen : LenV K (.ref a) H xs.length := hx.elim (fun z => .inl ⟨_, sq_of z, rfl⟩) fun z => .inr ⟨_, st_of z, rfl⟩
    have hpos : 0 < xs.length := List.length_pos_iff.mpr hne
    refine ⟨_, rfl, _, rfl, _, rfl, .ref a, xs.length, rfl, hlen, p, _, rfl, hP, by omega, by omega, fun d H1 d0 d1 K1 P1 => ?_⟩
    obtain ⟨x, hxd⟩ : ∃ x, xs[d.toNat]? = some x := ⟨_, List.getElem?_eq_getElem (by omega)⟩
    have fin := k x H1 (List.mem_of_getElem? hxd) K1 P1
    rcases hx with hx | hx
    · exact .inl ⟨a, xs, d, x, rfl, rfl, sq_of (K1.k _ _ nap hx), at_of (j := d.toNat) (by omega) hxd, fin⟩
    · exact .inr (.inl ⟨a, xs, d, x, rfl, rfl, st_of (K1.k _ _ nap hx), at_of (j := d.toNat) (by omega) hxd, fin⟩)
def sg (c : Nat) : Str := ⟨#[c]⟩
abbrev abc : Str := "abcdefghijklmnopqrstuvwxyz"
theorem abc_at : ∀ j : Fin 26, abc.cps.toList[j.1]? = some (97 + j.1) := by decide +kernel
theorem abc_len : abc.cps.toList.length = 26 := by decide +kernel
theorem abc_mem {c : Nat} (h : c ∈ abc.cps.toList) : 97 ≤ c ∧ c ≤ 122 := by
  obtain ⟨j, hj⟩ := List.getElem?_of_mem h
  have hl := (List.getElem?_eq_some_iff.mp hj).1
  rw [abc_len] at hl
  rw [abc_at ⟨j, hl⟩] at hj
  cases hj
  show 97 ≤ 97 + j ∧ 97 + j ≤ 122
  omega
theorem join_sg : ∀ cs : List Nat, (Str.join "" (cs.map sg)).cps.toList = cs
  | [] => rfl
  | [c] => rfl
  | c :: d :: r => by
    have ih := join_sg (d :: r)
    show (sg c ++ "" ++ Str.join "" ((d :: r).map sg)).cps.toList = _
    rw [Str.cps_append, Str.cps_append, Array.toList_append, Array.toList_append, ih]
    rfl
theorem txt_ext {a b : Str} (h : a.cps.toList = b.cps.toList) : a = b := str_ext h
theorem inV_str (z : Str) (zs : List Str) : inV (.str z) (zs.map V.str) = decide (z ∈ zs) := by
  unfold inV
  rw [Bool.eq_iff_iff, List.any_eq_true]
  constructor
  · rintro ⟨y, hy, e⟩
    obtain ⟨u, hu, rfl⟩ := List.mem_map.mp hy
    have e2 : (u == z) = true := e
    rw [← beq_iff_eq.mp e2]
    exact decide_eq_true hu
  · intro h
    refine ⟨.str z, List.mem_map.mpr ⟨z, of_decide_eq_true h, rfl⟩, ?_⟩
    show (z == z) = true
    exact beq_self_eq_true z
theorem flat_strs (zs : List Str) : (zs.map V.str).all flatV = true := by
  rw [List.all_eq_true]
  intro v hv
  obtain ⟨z, _, rfl⟩ := List.mem_map.mp hv
  rfl
/-- more different ones than places -/
theorem pigeon {α : Type} [DecidableEq α] : ∀ (l m : List α), l.Nodup → (∀ x ∈ l, x ∈ m) → l.length ≤ m.length
  | [], m, _, _ => Nat.zero_le _
  | a :: l, m, nd, h => by
    obtain ⟨na, nd2⟩ := List.nodup_cons.mp nd
    have ih := pigeon l (m.erase a) nd2 fun x hx => by
      have hm := h x (List.mem_cons_of_mem _ hx)
      have ne : x ≠ a := fun z => na (z ▸ hx)
      exact (List.mem_erase_of_ne ne).mpr hm
    have hm := h a List.mem_cons_self
    rw [List.length_erase_of_mem hm] at ih
    have : 0 < m.length := List.length_pos_of_mem hm
    rw [List.length_cons]
    omega
/-- the letter behind the first nine -/
def nx9 (z : Str) : V → Str
  | .str c => cutS z none (some 9) ++ c
  | _ => z
theorem cut9 (z : Str) : (cutS z none (some 9)).cps.toList = z.cps.toList.take 9 := by
  unfold cutS
  rw [HT.sIx_none]
  have e : HT.sIx z.length z.length (some 9) = min 9 z.length := HT.sIx_nat z.length z.length 9
  rw [e]
  show ((z.cps.toList.drop 0).take (min 9 z.length - 0)) = z.cps.toList.take 9
  rw [List.drop_zero, Nat.sub_zero]
  have hl : z.cps.toList.length = z.length := Array.length_toList
  rcases Nat.le_total 9 z.length with h | h
  · rw [Nat.min_eq_left h]
  · rw [Nat.min_eq_right h, List.take_of_length_le (by omega), List.take_of_length_le (by omega)]
theorem nx9_cps (z : Str) (c : Nat) : (nx9 z (.str (sg c))).cps.toList = z.cps.toList.take 9 ++ [c] := by
  show (cutS z none (some 9) ++ sg c).cps.toList = _
  rw [Str.cps_append, Array.toList_append, cut9]
  rfl
theorem nx9_inj {z : Str} {c d : Nat} (h : nx9 z (.str (sg c)) = nx9 z (.str (sg d))) : c = d := by
  have e1 := nx9_cps z c
  rw [h, nx9_cps z d] at e1
  have e2 := List.append_cancel_left e1
  simpa using e2.symm
theorem nx9_some (z : Str) (zs : List Str) (hz : zs.length ≤ 20) : ∃ c r, (chs abc).filter (fun x => !decide (nx9 z x ∈ zs)) = .str (sg c) :: r ∧ c ∈ abc.cps.toList ∧ nx9 z (.str (sg c)) ∉ zs := by
  have mem : ∀ x ∈ chs abc, ∃ c, c ∈ abc.cps.toList ∧ V.str (sg c) = x := fun x hx => by
    unfold chs at hx
    exact List.mem_map.mp hx
  cases e : (chs abc).filter (fun x => !decide (nx9 z x ∈ zs)) with
  | nil =>
    have all : ∀ x ∈ (chs abc).map (nx9 z), x ∈ zs := fun y hy => by
      obtain ⟨x, hx, rfl⟩ := List.mem_map.mp hy
      have h := List.filter_eq_nil_iff.mp e x hx
      simpa using h
    have nd : ((chs abc).map (nx9 z)).Nodup := by
      unfold chs
      rw [List.map_map]
      have nd0 : abc.cps.toList.Nodup := by decide +kernel
      exact List.Pairwise.map _ (fun c d hcd z2 => hcd (nx9_inj z2)) nd0
    have h1 := pigeon _ _ nd all
    rw [List.length_map, chs_len] at h1
    have h2 : abc.length = 26 := by decide +kernel
    omega
  | cons x r =>
    have hx : x ∈ (chs abc).filter (fun x => !decide (nx9 z x ∈ zs)) := by rw [e]; exact List.mem_cons_self
    obtain ⟨h1, h2⟩ := List.mem_filter.mp hx
    obtain ⟨c, hc, rfl⟩ := mem x h1
    exact ⟨c, r, rfl, hc, by simpa using h2⟩
theorem nx9_nm {z : Str} {c : Nat} (h : IsNm z) (hc : 97 ≤ c ∧ c ≤ 122) : IsNm (nx9 z (.str (sg c))) := by
  have e := nx9_cps z c
  have hl : (nx9 z (.str (sg c))).length = (z.cps.toList.take 9 ++ [c]).length := by rw [← e, Array.length_toList]; rfl
  rw [List.length_append, List.length_take, List.length_singleton] at hl
  refine ⟨by omega, by omega, fun d hd => ?_⟩
  rw [e] at hd
  rcases List.mem_append.mp hd with hd | hd
  · exact h.2.2 d (List.mem_of_mem_take hd)
  · rw [List.mem_singleton.mp hd]; exact hc
abbrev s__law_name : Stmt := top 23
theorem sc__law_name : FnScope ["_law_pool_here", "_law_taken", "_law_letters", "_law_size", "_law_name_here", "_law_k", "_law_letter"] ["_law_pool_here", "_law_taken"] (defScope s__law_name) := ⟨rfl, rfl, rfl, by decide +kernel, rfl, by decide +kernel, by decide +kernel⟩
def spName : Sp := fun vs H Q _ => ∃ (p a : Addr) (zs : List Str), vs = [.ref p, .ref a] ∧ Pool H p ∧ a ≠ p ∧ H a = some (.lst (zs.map V.str)) ∧ zs.length ≤ 20 ∧ ∀ z H', IsNm z → z ∉ zs → Kp p H H' → Pool H' p → Q (.str z) H'
theorem ok_name (G : Gz mg) (D : Df K mg "_law_name" s__law_name f fd ["_law_pool_here", "_law_taken"]) (c__law_draw : Callee P w K mg base CXn 1 "_law_draw" 2 spDraw) : Callee P w K mg base CXn 2 "_law_name" 2 spName := by
  refine D.callee (D.fn.ok sc__law_name (fun vs H Q E h => ?_) (fun cdv A outer s H vs Q E hr h => ⟨_, PSs.nox (pss_cons (ps_set (i := 2) sc__law_name.nd rfl (Or.inr rfl) pe_str) (pss_cons (ps_set (i := 3) sc__law_name.nd rfl (Or.inl rfl) (pe_ix (ixK (K := K) rfl) (pe_lst (pa_cons pe_int (pa_cons pe_int (pa_cons pe_int (pa_cons pe_int (pa_cons pe_int (pa_cons pe_int (pa_cons pe_int pa_nil)))))))) (pe_cl (E := En) c__law_draw (hr.mono (by decide)) rfl passN (pa_cons (pv 0) (pa_cons pe_int pa_nil))) (fun _ _ => rfl))) (pss_cons (ps_set (i := 4) sc__law_name.nd rfl (Or.inr rfl) (pe_join pe_str (pe_lc (own := [("_law_k", 5)]) rfl sc__law_name.nd (pi_range1 rfl G.g_range (pa_cons (pv 3) pa_nil)) (BlkOk.mk (N := ["_law_pool_here", "_law_taken", "_law_letters", "_law_size", "_law_name_here", "_law_k", "_law_letter"]) (sc := defScope s__law_name) rfl (by decide +kernel) (by decide +kernel) (by decide +kernel) (by decide +kernel)) (fun _ _ _ _ _ => (pg_name (i := 5) sc__law_name.nd rfl (Or.inl rfl))) (fun _ _ _ _ _ => pts_nil) (fun _ _ _ _ _ => (pe_ix (ixK (K := K) rfl) (pv 2) (pe_cl (E := En) c__law_draw (hr.mono (by decide)) rfl passN (pa_cons (pv 0) (pa_cons pe_int pa_nil))) (fun _ _ => rfl)))))) (pss_cut (ps_if (pt_cmpR (inK (K := K) rfl) (pv 4) (pv 1) (by rfl)) (pss_one (ps_set (i := 4) sc__law_name.nd rfl (Or.inr rfl) (pe_ix (ixK (K := K) rfl) (pe_lc (own := [("_law_letter", 6)]) rfl sc__law_name.nd (pi_str (pv 2)) (BlkOk.mk (N := ["_law_pool_here", "_law_taken", "_law_letters", "_law_size", "_law_name_here", "_law_k", "_law_letter"]) (sc := defScope s__law_name) rfl (by decide +kernel) (by decide +kernel) (by decide +kernel) (by decide +kernel)) (fun _ _ _ _ _ => (pg_name (i := 6) sc__law_name.nd rfl (Or.inl rfl))) (fun _ _ _ _ _ => (pts_one (pt_cmpR (notInK (K := K) rfl) (pe_op op_add_str (pe_slice sl_str (pv 4) po_none (po_some pe_int)) (pv 6)) (pv 1) (by rfl)))) (fun _ _ _ _ _ => (pe_op op_add_str (pe_slice sl_str (pv 4) po_none (po_some pe_int)) (pv 6)))) pe_int (fun _ _ => rfl)))) pss_nil) (pss_one (ps_ret (pv 4))))))), ?_⟩))
  · obtain ⟨_, _, _, rfl, _⟩ := h
    rfl
  · obtain ⟨p, a, zs, rfl, hP, nap, ha, hz, k⟩ := h
    refine ⟨(by show 7 ≤ sizeLine; decide), fun l hl => ⟨_, rfl, p, 7, rfl, hP.ex (Ex.new hl), by decide, by decide, fun d H1 d0 d1 K1' P1 => ?_⟩⟩
    have hm : ∃ m : Int, ([.int 1, .int 1, .int 2, .int 3, .int 4, .int 6, .int 10] : List V)[d.toNat]? = some (.int m) ∧ 1 ≤ m ∧ m ≤ 10 := by
      have hd : d = 0 ∨ d = 1 ∨ d = 2 ∨ d = 3 ∨ d = 4 ∨ d = 5 ∨ d = 6 := by omega
      rcases hd with rfl | rfl | rfl | rfl | rfl | rfl | rfl <;> exact ⟨_, rfl, by decide, by decide⟩
    obtain ⟨m, hm, m1, m10⟩ := hm
    have nlp : l ≠ p := fun z => hP.here (z ▸ hl)
    have K1 : Kp p H H1 := (Kp.ex (Ex.new hl) hP).trans K1'
    refine .inl ⟨l, _, d, .int m, rfl, rfl, sq_of (K1'.k l _ nlp upd_same), at_of (j := d.toNat) (by omega) hm, ?_⟩
    refine ⟨⟨_, rfl⟩, _, rfl, m, rfl, by omega, by omega, fun D hD => ?_⟩
    obtain ⟨hD0, nDp⟩ := K1.free P1 hD
    refine lc_range (fun i H' => ∃ cs : List Nat, cs.length = i ∧ (∀ c ∈ cs, 97 ≤ c ∧ c ≤ 122) ∧ H' D = some (.lst (cs.map fun c => .str (sg c))) ∧ Kp p H H' ∧ Pool H' p ∧ Apart H' p D) ?_ ?_ ?_
    · obtain ⟨_, ap⟩ := Apart.new (o := .lst []) P1 hD
      exact ⟨[], rfl, fun c hc => (nomatch hc), upd_same, K1.new P1 hD, P1.ex (Ex.new hD), ap⟩
    · rintro i H' hi ⟨cs, hcl, hcs, hd, K2, P2, A2⟩
      refine ⟨rfl, _, rfl, _, rfl, p, 26, rfl, P2, by decide, by decide, fun e H3 e0 e1 K3 P3 => ?_⟩
      have he : abc.cps.toList[e.toNat]? = some (97 + e.toNat) := abc_at ⟨e.toNat, by omega⟩
      have hd3 := K3.k D _ nDp hd
      refine .inr (.inr ⟨abc, e, 97 + e.toNat, rfl, rfl, (by decide), (by have q := atI_nat (xs := abc.cps.toList) he; rwa [show ((e.toNat : Nat) : Int) = e by omega] at q), _, hd3, ?_, ?_⟩)
      · rw [List.length_map]
        exact sz_lt (by omega)
      · have hd2 : H' D ≠ none := some_ne hd
        refine ⟨cs ++ [97 + e.toNat], by rw [List.length_append, hcl]; rfl, fun c hc => ?_, ?_, (K2.trans K3).mut hD0 nDp, P3.mut nDp (K3.a D nDp hd2 A2), Apart.mut nDp (K3.a D nDp hd2 A2)⟩
        · rcases List.mem_append.mp hc with hc | hc
          · exact hcs c hc
          · rw [List.mem_singleton.mp hc]; omega
        · rw [upd_same, List.map_append]
          rfl
    rintro H' ⟨cs, hcl, hcs, hd, K2, P2, A2⟩
    refine ⟨_, D, cs.map sg, rfl, rfl, .inl (sq_of (by rw [hd, List.map_map]; rfl)), ?_, ?_⟩
    · have h1 : (cs.map sg).map (·.length) = cs.map fun _ => 1 := by rw [List.map_map]; rfl
      have h2 : (cs.map fun _ => (1 : Nat)).sum = cs.length := by
        clear h1 hd hcs hcl
        induction cs with
        | nil => rfl
        | cons c r ih => rw [List.map_cons, List.sum_cons, ih, List.length_cons]; omega
      rw [h1, h2]
      show cs.length + (cs.map sg).length * 0 ≤ 16777216
      omega
    have hjn : (Txt.join "" (cs.map sg)).cps.toList = cs := by rw [show Txt.join "" (cs.map sg) = Str.join "" (cs.map sg) from StrLaws.glued_eq_join _ _]; exact join_sg cs
    generalize hzz : Txt.join "" (cs.map sg) = z at hjn ⊢
    have zl : z.length = cs.length := by rw [← hjn, Array.length_toList]; rfl
    have nz : IsNm z := ⟨by omega, by omega, fun c hc => hcs c (hjn ▸ hc)⟩
    have ha2 := K2.k a _ nap ha
    refine ⟨fun σ' H2 => ∃ y v5 v6, σ' = [some (.ref p), some (.ref a), some (.str abc), some (.int m), some (.str y), v5, v6] ∧ IsNm y ∧ y ∉ zs ∧ Kp p H H2 ∧ Pool H2 p, ?_, ?_⟩
    · refine ⟨_, rfl, _, rfl, a, _, rfl, .inl (sq_of ha2), rfl, flat_strs zs, _, rfl, ?_⟩
      show if (inV (.str z) (zs.map V.str)) = true then _ else _
      rw [inV_str]
      refine ite2 (fun hin => ?_) (fun hno => ⟨z, none, none, rfl, nz, fun z2 => hno (decide_eq_true z2), K2, P2⟩)
      refine ⟨_, rfl, abc, rfl, fun D2 hD2 => ?_⟩
      have lz : z.length ≤ sizeLine := Nat.le_trans nz.2.1 (by decide)
      have lc9 : ∀ c, (cutS z none (some 9)).length + (sg c).length ≤ sizeLine := fun c => by
        have h1 : (cutS z none (some 9)).length = ((cutS z none (some 9)).cps.toList).length := by rw [Array.length_toList]; rfl
        rw [cut9, List.length_take] at h1
        have h2 : (sg c).length = 1 := rfl
        exact Nat.le_trans (by omega : _ ≤ 10) (by decide)
      have mem : ∀ x ∈ chs abc, ∃ c, c ∈ abc.cps.toList ∧ V.str (sg c) = x := fun x hx => by
        unfold chs at hx
        exact List.mem_map.mp hx
      refine lc_ev (f := fun x => !decide (nx9 z x ∈ zs)) (v := fun x => .str (nx9 z x)) st_s (by rw [chs_len]; decide +kernel) (fun x => rfl) hD2 (fun x hx H3 e Q q => ?_) (fun x hx _ H3 e Q q => ?_) (fun H3 e3 hd3 => ?_)
      · obtain ⟨c, hc, rfl⟩ := mem x hx
        refine ⟨_, rfl, 9, rfl, z, rfl, lz, _, rfl, _, sg c, rfl, rfl, lc9 c, _, rfl, a, _, rfl, .inl (sq_of (e _ _ ha2)), rfl, flat_strs zs, _, rfl, ?_⟩
        show Q (!inV (.str (nx9 z (.str (sg c)))) (zs.map V.str)) H3
        rw [inV_str]
        exact q H3 (Ex.refl _)
      · obtain ⟨c, hc, rfl⟩ := mem x hx
        exact ⟨_, rfl, 9, rfl, z, rfl, lz, _, rfl, _, sg c, rfl, rfl, lc9 c, q H3 (Ex.refl _)⟩
      · obtain ⟨c, r, e, hc, hn⟩ := nx9_some z zs hz
        rw [e] at hd3
        refine .inl ⟨D2, _, 0, .str (nx9 z (.str (sg c))), rfl, rfl, sq_of hd3, (show atI _ ((0 : Nat) : Int) = _ from atI_nat rfl), ?_⟩
        exact ⟨_, _, _, rfl, nx9_nm nz (abc_mem hc), hn, K2.trans (Kp.ex e3 P2), P2.ex e3⟩
    · rintro σ' H2 ⟨y, v5, v6, rfl, ny, hy, K5, P5⟩
      exact ⟨_, rfl, k y H2 ny hy K5 P5⟩
abbrev s__law_names : Stmt := top 24
theorem sc__law_names : FnScope ["_law_pool_here", "_law_many", "_law_names_here", "_law_k"] ["_law_pool_here", "_law_many"] (defScope s__law_names) := ⟨rfl, rfl, rfl, by decide +kernel, rfl, by decide +kernel, by decide +kernel⟩
def spNames : Sp := fun vs H Q _ => ∃ (p : Addr) (m : Int), vs = [.ref p, .int m] ∧ Pool H p ∧ 0 ≤ m ∧ m ≤ 20 ∧ ∀ (a : Addr) (zs : List Str) (H' : Hp), zs.length = m.toNat → zs.Nodup → (∀ z ∈ zs, IsNm z) → Kp p H H' → Pool H' p → H a = none → a ≠ p → H' a = some (.lst (zs.map V.str)) → Q (.ref a) H'
theorem ok_names (G : Gz mg) (D : Df K mg "_law_names" s__law_names f fd ["_law_pool_here", "_law_many"]) (c__law_name : Callee P w K mg base CXn 2 "_law_name" 2 spName) : Callee P w K mg base CXn 3 "_law_names" 2 spNames := by
  refine D.callee (D.fn.ok sc__law_names (fun vs H Q E h => ?_) (fun cdv A outer s H vs Q E hr h => ⟨_, PSs.nox (pss_cons (ps_set (i := 2) sc__law_names.nd rfl (Or.inl rfl) (pe_lst pa_nil)) (pss_cons (ps_for PassesOwn.never rfl (pi_range1 rfl G.g_range (pa_cons (pv 1) pa_nil)) (pg_name (i := 3) sc__law_names.nd rfl (Or.inl rfl)) (pss_one (ps_expr (pe_bm PySem.F.plainAttrs_list PySem.F.slot_list_append PySem.F.type_list_append mt_append (pv 2) (pa_cons (pe_cl (E := En) c__law_name (hr.mono (by decide)) rfl passN (pa_cons (pv 0) (pa_cons (pv 2) pa_nil))) pa_nil))))) (pss_one (ps_ret (pv 2))))), ?_⟩))
  · obtain ⟨_, _, rfl, _⟩ := h
    rfl
  · obtain ⟨p, m, rfl, hP, m0, m20, k⟩ := h
    refine ⟨Nat.zero_le _, fun l hl => ?_⟩
    obtain ⟨nlp, al⟩ := Apart.new (o := .lst []) hP hl
    refine ⟨_, rfl, m, rfl, by omega, by omega, for_range (fun i σ' H' => (∃ v, σ' = [some (.ref p), some (.int m), some (.ref l), v]) ∧ ∃ zs : List Str, zs.length = i ∧ zs.Nodup ∧ (∀ z ∈ zs, IsNm z) ∧ H' l = some (.lst (zs.map V.str)) ∧ Kp p H H' ∧ Pool H' p ∧ Apart H' p l) ?_ ?_ ?_⟩
    · exact ⟨⟨none, rfl⟩, [], rfl, List.nodup_nil, fun z hz => (nomatch hz), upd_same, (Kp.refl p H).new hP hl, hP.ex (Ex.new hl), al⟩
    · rintro i σ' H' hi ⟨⟨v, rfl⟩, zs, hzl, nd, nm, hd, K1, P1, A1⟩
      refine ⟨_, rfl, .inl ⟨rfl, _, sq_of hd⟩, _, rfl, _, rfl, p, l, zs, rfl, P1, nlp, hd, by omega, fun z H2 nz hz K2 P2 => ?_⟩
      have hd2 := K2.k l _ nlp hd
      have A2 := K2.a l nlp (some_ne hd) A1
      refine ⟨l, _, _, rfl, rfl, hd2, ?_, ⟨_, rfl⟩, zs ++ [z], by rw [List.length_append, hzl]; rfl, ?_, ?_, ?_, (K1.trans K2).mut hl nlp, P2.mut nlp A2, Apart.mut nlp A2⟩
      · rw [List.length_map]
        exact sz_lt (by omega)
      · rw [List.nodup_append]
        refine ⟨nd, by simp, fun x hx y hy => ?_⟩
        rw [List.mem_singleton.mp hy]
        exact fun e => hz (e ▸ hx)
      · intro x hx
        rcases List.mem_append.mp hx with hx | hx
        · exact nm x hx
        · rw [List.mem_singleton.mp hx]; exact nz
      · rw [upd_same, List.map_append]
        rfl
    · rintro σ' H' ⟨⟨v, rfl⟩, zs, hzl, nd, nm, hd, K1, P1, A1⟩
      exact ⟨_, rfl, k l zs H' hzl nd nm K1 P1 hl nlp hd⟩
end
end WK

set_option Elab.async false
set_option linter.all false
set_option maxRecDepth 100000
set_option maxHeartbeats 4000000
namespace WK
open PySem PySem.Spec PyProof.Rows L2 WW Evl
/-- what a drawn hand keeps -/
structure Drawn (ws : List Str) (st : Int) (ts : List Stp) : Prop where
  row : GoodRow ts
  st0 : 0 ≤ st ∧ st ≤ 96
  low : ∀ t ∈ ts, t.1 ≤ 96 ∧ t.2.2 ≤ 96
  short : ts.length ≤ 12
/-- tuples stay -/
def Tu (H H' : Hp) : Prop := ∀ b ys, H b = some (.tup ys) → H' b = some (.tup ys)
theorem Tu.trans {H H1 H2 : Hp} (a : Tu H H1) (b : Tu H1 H2) : Tu H H2 := fun c ys h => b c ys (a c ys h)
theorem Tu.ex {H H' : Hp} (e : Ex H H') : Tu H H' := fun b ys h => e _ _ h
theorem Tu.lst {H : Hp} {l : Addr} {xs : List V} {o : HO} (h : H l = some (.lst xs)) : Tu H (upd H l o) := fun b ys hb => by
  rw [upd_ne (fun z => by rw [z, h] at hb; cases hb)]
  exact hb
theorem Kp.tu {p : Addr} {H H' : Hp} (hP : Pool H p) (k : Kp p H H') : Tu H H' := fun b ys hb => by
  obtain ⟨g, s, n, kk, gs, ss, h1, _⟩ := hP
  exact k.k b _ (fun z => by rw [z, h1] at hb; cases hb) hb
theorem Rw.tu {H H' : Hp} {xs : List V} {ts : List Stp} (e : Tu H H') (h : Rw H xs ts) : Rw H' xs ts := Paired.mapP h fun v t ⟨a, e1, e2⟩ => ⟨a, e1, e _ _ e2⟩
theorem StepAt.tu {H H' : Hp} {v : V} {t : Stp} (e : Tu H H') (h : StepAt H v t) : StepAt H' v t := let ⟨a, e1, e2⟩ := h; ⟨a, e1, e _ _ e2⟩
theorem Rw.snoc {H : Hp} {x : V} {t : Stp} (hx : StepAt H x t) : ∀ {xs : List V} {ts : List Stp}, Rw H xs ts → Rw H (xs ++ [x]) (ts ++ [t])
  | _, _, .nil => .cons hx .nil
  | _, _, .cons g r => .cons g (Rw.snoc hx r)
theorem Rw.app {H : Hp} : ∀ {xs ys : List V} {ts us : List Stp}, Rw H xs ts → Rw H ys us → Rw H (xs ++ ys) (ts ++ us)
  | _, _, _, _, .nil, r => r
  | _, _, _, _, .cons g r, q => .cons g (Rw.app r q)
theorem Rw.drop {H : Hp} : ∀ {xs : List V} {ts : List Stp} (n : Nat), Rw H xs ts → Rw H (xs.drop n) (ts.drop n)
  | _, _, 0, h => h
  | _, _, n + 1, .nil => by simp; exact .nil
  | _, _, n + 1, .cons _ r => by simpa using Rw.drop n r
/-- steps over low states and these words -/
structure Row96 (zs : List Str) (ts : List Stp) : Prop where
  good : ∀ t ∈ ts, (0 ≤ t.1 ∧ t.1 ≤ 96) ∧ t.2.1 ∈ zs ∧ (0 ≤ t.2.2 ∧ t.2.2 ≤ 96)
  nd : ts.Nodup
  few : ∀ t ∈ ts, cnt t ts ≤ 3
theorem cnt_app (u : Stp) (ts us : List Stp) : cnt u (ts ++ us) = cnt u ts + cnt u us := by
  unfold cnt
  rw [List.filter_append, List.length_append]
theorem cnt_one (u t : Stp) : cnt u [t] = if t.1 = u.1 then 1 else 0 := by
  unfold cnt
  by_cases h : t.1 = u.1
  · simp [h]
  · simp [h]
theorem cnt_same {u t : Stp} (h : u.1 = t.1) (ts : List Stp) : cnt u ts = cnt t ts := by
  unfold cnt
  rw [h]
theorem Row96.nil (zs : List Str) : Row96 zs [] := ⟨fun _ h => (nomatch h), List.nodup_nil, fun _ h => (nomatch h)⟩
theorem Row96.add {zs : List Str} {ts : List Stp} {t : Stp} (h : Row96 zs ts) (ht : (0 ≤ t.1 ∧ t.1 ≤ 96) ∧ t.2.1 ∈ zs ∧ (0 ≤ t.2.2 ∧ t.2.2 ≤ 96)) (hn : t ∉ ts) (hc : cnt t ts < 3) : Row96 zs (ts ++ [t]) where
  good := fun u hu => by
    rcases List.mem_append.mp hu with hu | hu
    · exact h.good u hu
    · rw [List.mem_singleton.mp hu]; exact ht
  nd := by
    rw [List.nodup_append]
    refine ⟨h.nd, by simp, fun x hx y hy => ?_⟩
    rw [List.mem_singleton.mp hy]
    exact fun e => hn (e ▸ hx)
  few := fun u hu => by
    rw [cnt_app, cnt_one]
    by_cases e : t.1 = u.1
    · rw [if_pos e, cnt_same e.symm]
      omega
    · rw [if_neg e]
      rcases List.mem_append.mp hu with hu | hu
      · exact h.few u hu
      · exact absurd (by rw [List.mem_singleton.mp hu]) e
theorem Row96.row {zs : List Str} {ts : List Stp} (h : Row96 zs ts) (hz : ∀ z ∈ zs, IsNm z) (h1 : ts ≠ []) (h2 : ts.length ≤ 20) : GoodRow ts :=
  ⟨List.length_pos_iff.mpr h1, h2, fun t ht => let ⟨⟨a, b⟩, c, d, e⟩ := h.good t ht; ⟨a, by omega, hz _ c, d, by omega⟩, h.nd, h.few⟩
section
variable {P : Program} {w : World} {K : PySem.W.Frag} {mg : Str → Option Value} {base : Heap} {f : Addr} {fd : FuncData}
/-- the row of steps at sl while it is filled; B: what stood before -/
def HI (p sl : Addr) (B H : Hp) (zs : List Str) (xs : List V) (ts : List Stp) : Prop := H sl = some (.lst xs) ∧ Rw H xs ts ∧ Row96 zs ts ∧ Kp p B H ∧ Pool H p ∧ Apart H p sl
theorem HI.draw {p sl : Addr} {B H H2 : Hp} {zs : List Str} {xs : List V} {ts : List Stp} (h : HI p sl B H zs xs ts) (n : sl ≠ p) (K : Kp p H H2) (P : Pool H2 p) : HI p sl B H2 zs xs ts :=
  ⟨K.k sl _ n h.1, h.2.1.tu (K.tu h.2.2.2.2.1), h.2.2.1, h.2.2.2.1.trans K, P, K.a sl n (some_ne h.1) h.2.2.2.2.2⟩
theorem HI.ex {p sl : Addr} {B H H2 : Hp} {zs : List Str} {xs : List V} {ts : List Stp} (h : HI p sl B H zs xs ts) (n : sl ≠ p) (e : Ex H H2) : HI p sl B H2 zs xs ts := h.draw n (Kp.ex e h.2.2.2.2.1) (h.2.2.2.2.1.ex e)
theorem HI.add {p sl : Addr} {B H : Hp} {zs : List Str} {xs : List V} {ts : List Stp} {x : V} {t : Stp} (h : HI p sl B H zs xs ts) (n : sl ≠ p) (hb : B sl = none) (hx : StepAt H x t) (r : Row96 zs (ts ++ [t])) : HI p sl B (upd H sl (.lst (xs ++ [x]))) zs (xs ++ [x]) (ts ++ [t]) :=
  ⟨upd_same, (h.2.1.snoc hx).tu (Tu.lst h.1), r, h.2.2.2.1.mut hb n, h.2.2.2.2.1.mut n h.2.2.2.2.2, Apart.mut n h.2.2.2.2.2⟩
abbrev s__law_hand : Stmt := top 25
theorem sc__law_hand : FnScope ["_law_pool_here", "_law_words", "_law_most", "_law_shape", "_law_first", "_law_gap", "_law_many", "_law_places", "_law_k", "_law_turn", "_law_orderly", "_law_steps", "_law_word", "_law_more", "_law_step", "_law_old"] ["_law_pool_here", "_law_words", "_law_most"] (defScope s__law_hand) := ⟨rfl, rfl, rfl, by decide +kernel, rfl, by decide +kernel, by decide +kernel⟩
def spHand : Sp := fun vs H Q _ => ∃ (p a : Addr) (zs : List Str) (m : Int), vs = [.ref p, .ref a, .int m] ∧ Pool H p ∧ a ≠ p ∧ H a = some (.lst (zs.map V.str)) ∧ zs ≠ [] ∧ zs.length ≤ 20 ∧ (∀ z ∈ zs, IsNm z) ∧ 1 ≤ m ∧ m ≤ 4 ∧
  ∀ q t xs st ts H', Drawn zs st ts → Kp p H H' → Pool H' p → H' q = some (.tup [.int st, .ref t]) → H' t = some (.tup xs) → Rw H' xs ts → Q (.ref q) H'
theorem ok_hand (G : Gz mg) (D : Df K mg "_law_hand" s__law_hand f fd ["_law_pool_here", "_law_words", "_law_most"]) (c__law_draw : Callee P w K mg base CXn 1 "_law_draw" 2 spDraw) (c__law_pick : Callee P w K mg base CXn 2 "_law_pick" 2 spPick) : Callee P w K mg base CXn 3 "_law_hand" 3 spHand := by
  refine D.callee (D.fn.ok sc__law_hand (fun vs H Q E h => ?_) (fun cdv A outer s H vs Q E hr h => ⟨_, PSs.nox (pss_cons (ps_asg (pe_tup (pa_cons (pe_cl (E := En) c__law_draw (hr.mono (by decide)) rfl passN (pa_cons (pv 0) (pa_cons pe_int pa_nil))) (pa_cons (pe_cl (E := En) c__law_draw (hr.mono (by decide)) rfl passN (pa_cons (pv 0) (pa_cons pe_int pa_nil))) (pa_cons (pe_op op_add pe_int (pe_cl (E := En) c__law_draw (hr.mono (by decide)) rfl passN (pa_cons (pv 0) (pa_cons pe_int pa_nil)))) pa_nil)))) (pg_tup rfl (pgs_cons (pg_name (i := 3) sc__law_hand.nd rfl (Or.inl rfl)) (pgs_cons (pg_name (i := 4) sc__law_hand.nd rfl (Or.inr rfl)) (pgs_cons (pg_name (i := 5) sc__law_hand.nd rfl (Or.inr rfl)) pgs_nil))))) (pss_cons (ps_set (i := 6) sc__law_hand.nd rfl (Or.inl rfl) (pe_op op_sub (pv 2) (pe_op op_mul (pe_cl (E := En) c__law_draw (hr.mono (by decide)) rfl passN (pa_cons (pv 0) (pa_cons (pv 2) pa_nil))) (pe_callTy call_int1 rfl G.g_int (by rfl) (pa_cons (pe_cmpR op_eq (pe_cl (E := En) c__law_draw (hr.mono (by decide)) rfl passN (pa_cons (pv 0) (pa_cons pe_int pa_nil))) pe_int (nomark _)) pa_nil))))) (pss_cons (ps_setLc (i := 7) (y := "_law_places") (own := [("_law_k", 8)]) rfl sc__law_hand.nd rfl rfl rfl (pi_range1 rfl G.g_range (pa_cons (pv 6) pa_nil)) (BlkOk.mk (N := ["_law_pool_here", "_law_words", "_law_most", "_law_shape", "_law_first", "_law_gap", "_law_many", "_law_places", "_law_k", "_law_turn", "_law_orderly", "_law_steps", "_law_word", "_law_more", "_law_step", "_law_old"]) (sc := defScope s__law_hand) rfl (by decide +kernel) (by decide +kernel) (by decide +kernel) (by decide +kernel)) (fun _ _ _ _ _ => (pg_name (i := 8) sc__law_hand.nd rfl (Or.inl rfl))) (fun _ _ _ _ _ => pts_nil) (fun _ _ _ _ _ => (pe_op op_add (pv 4) (pe_op op_mul (pv 5) (pv 8))))) (pss_cons (ps_par (i := 9) (j := 10) rfl sc__law_hand.nd rfl rfl (by decide) rfl rfl (pa_cons (pe_cl (E := En) c__law_draw (hr.mono (by decide)) rfl passN (pa_cons (pv 0) (pa_cons (pe_callB (lenK (K := K) rfl) rfl G.g_len PySem.boot_len (pa_cons (pv 1) pa_nil)) pa_nil))) (pa_cons (pe_cmpR op_gt (pe_cl (E := En) c__law_draw (hr.mono (by decide)) rfl passN (pa_cons (pv 0) (pa_cons pe_int pa_nil))) pe_int (nomark _)) pa_nil)) rfl) (pss_cons (ps_set (i := 11) sc__law_hand.nd rfl (Or.inl rfl) (pe_lst pa_nil)) (pss_cons (ps_for PassesOwn.never rfl (pi_range1 rfl G.g_range (pa_cons (pe_op op_mul (pe_op op_sub (pv 6) (pe_callTy call_int1 rfl G.g_int (by rfl) (pa_cons (pe_cmpR op_gt (pv 3) pe_int (nomark _)) pa_nil))) (pe_callTy call_int1 rfl G.g_int (by rfl) (pa_cons (pe_cmpR op_gt (pv 3) pe_int (nomark _)) pa_nil))) pa_nil)) (pg_name (i := 8) sc__law_hand.nd rfl (Or.inl rfl)) (pss_cut (ps_set (i := 12) sc__law_hand.nd rfl (Or.inl rfl) (pe_ifExp (pt_val (pv 10)) (pe_ix (ixK (K := K) rfl) (pv 1) (pe_op op_mod (pe_callTy call_int1 rfl G.g_int (by rfl) (pa_cons (pe_op op_add (pv 9) (pv 8)) pa_nil)) (pe_callB (lenK (K := K) rfl) rfl G.g_len PySem.boot_len (pa_cons (pv 1) pa_nil))) (fun _ _ => rfl)) (pe_cl (E := En) c__law_pick (hr.mono (by decide)) rfl passN (pa_cons (pv 0) (pa_cons (pv 1) pa_nil))))) (pss_one (ps_expr (pe_bm PySem.F.plainAttrs_list PySem.F.slot_list_append PySem.F.type_list_append mt_append (pv 11) (pa_cons (pe_tup (pa_cons (pe_ix (ixK (K := K) rfl) (pv 7) (pv 8) (fun _ _ => rfl)) (pa_cons (pv 12) (pa_cons (pe_ix (ixK (K := K) rfl) (pv 7) (pe_op op_mod (pe_callTy call_int1 rfl G.g_int (by rfl) (pa_cons (pe_op op_add (pv 8) pe_int) pa_nil)) (pv 6)) (fun _ _ => rfl)) pa_nil)))) pa_nil)))))) (pss_cut (ps_set (i := 13) sc__law_hand.nd rfl (Or.inl rfl) (pe_op op_mul (pe_cl (E := En) c__law_draw (hr.mono (by decide)) rfl passN (pa_cons (pv 0) (pa_cons pe_int pa_nil))) (pe_callTy call_int1 rfl G.g_int (by rfl) (pa_cons (L2.pe_or (pe_not (pv 10)) (pe_one (pe_cmpR op_eq (pe_cl (E := En) c__law_draw (hr.mono (by decide)) rfl passN (pa_cons (pv 0) (pa_cons pe_int pa_nil))) pe_int (nomark _)))) pa_nil)))) (pss_cons (ps_for PassesOwn.never rfl (pi_range1 rfl G.g_range (pa_cons (pe_op op_add (pv 13) (pe_callTy call_int1 rfl G.g_int (by rfl) (pa_cons (pe_cmpR op_eq (pe_callB (lenK (K := K) rfl) rfl G.g_len PySem.boot_len (pa_cons (pv 11) pa_nil)) pe_int (nomark _)) pa_nil))) pa_nil)) (pg_name (i := 8) sc__law_hand.nd rfl (Or.inl rfl)) (pss_cons (ps_set (i := 14) sc__law_hand.nd rfl (Or.inr rfl) (pe_tup (pa_cons (pe_cl (E := En) c__law_pick (hr.mono (by decide)) rfl passN (pa_cons (pv 0) (pa_cons (pv 7) pa_nil))) (pa_cons (pe_cl (E := En) c__law_pick (hr.mono (by decide)) rfl passN (pa_cons (pv 0) (pa_cons (pv 1) pa_nil))) (pa_cons (pe_cl (E := En) c__law_pick (hr.mono (by decide)) rfl passN (pa_cons (pv 0) (pa_cons (pv 7) pa_nil))) pa_nil))))) (pss_one (ps_if (PW.pt (pw_and (pt_cmpR (op_notInD (room65 hr)) (pv 14) (pv 11) (by rfl)) (pw_and1 (pt_cmpR op_lt (pe_callB (lenK (K := K) rfl) rfl G.g_len PySem.boot_len (pa_cons (pe_lc (own := [("_law_old", 15)]) rfl sc__law_hand.nd (pi_list (pv 11)) (BlkOk.mk (N := ["_law_pool_here", "_law_words", "_law_most", "_law_shape", "_law_first", "_law_gap", "_law_many", "_law_places", "_law_k", "_law_turn", "_law_orderly", "_law_steps", "_law_word", "_law_more", "_law_step", "_law_old"]) (sc := defScope s__law_hand) rfl (by decide +kernel) (by decide +kernel) (by decide +kernel) (by decide +kernel)) (fun _ _ _ _ _ => (pg_name (i := 15) sc__law_hand.nd rfl (Or.inl rfl))) (fun _ _ _ _ _ => (pts_one (pt_cmpR op_eq (pe_ix (ixK (K := K) rfl) (pv 15) pe_int (fun _ _ => rfl)) (pe_ix (ixK (K := K) rfl) (pv 14) pe_int (fun _ _ => rfl)) (nomark _)))) (fun _ _ _ _ _ => pe_int)) pa_nil)) pe_int (nomark _))))) (pss_one (ps_expr (pe_bm PySem.F.plainAttrs_list PySem.F.slot_list_append PySem.F.type_list_append mt_append (pv 11) (pa_cons (pv 14) pa_nil)))) pss_nil)))) (pss_one (ps_ret (pe_tup (pa_cons (pe_ix (ixK (K := K) rfl) (pe_lst (pa_cons (pe_ix (ixK (K := K) rfl) (pe_ix (ixK (K := K) rfl) (pv 11) pe_int (fun _ _ => rfl)) pe_int (fun _ _ => rfl)) (pa_cons (pe_cl (E := En) c__law_pick (hr.mono (by decide)) rfl passN (pa_cons (pv 0) (pa_cons (pv 7) pa_nil))) pa_nil))) (pe_cl (E := En) c__law_draw (hr.mono (by decide)) rfl passN (pa_cons (pv 0) (pa_cons pe_int pa_nil))) (fun _ _ => rfl)) (pa_cons (pe_callTy (tupOfK (K := K) rfl) rfl G.g_tuple (by rfl) (pa_cons (pv 11) pa_nil)) pa_nil))))))))))))), ?_⟩))
  · obtain ⟨_, _, _, _, rfl, _⟩ := h
    rfl
  · obtain ⟨p, a, zs, m, rfl, hP, nap, ha, zne, zl, znm, m1, m4, k⟩ := h
    have zpos : 0 < zs.length := List.length_pos_iff.mpr zne
    refine ⟨_, rfl, p, 6, rfl, hP, by decide, by decide, fun sh H1 s0 s1 K1 P1 => ⟨_, rfl, p, 70, rfl, P1, by decide, by decide, fun fi H2 f0 f1 K2 P2 => ⟨_, rfl, p, 9, rfl, P2, by decide, by decide, fun ga H3 g0 g1 K3 P3 => ⟨1, ga, rfl, rfl, (by show 3 ≤ sizeLine; decide), fun T hT => ?_⟩⟩⟩⟩
    refine ⟨T, _, rfl, st_of upd_same, rfl, _, _, rfl, _, _, rfl, _, _, rfl, rfl, ?_⟩
    have K4 := (K1.trans (K2.trans K3)).new (o := .tup [.int sh, .int fi, .int (1 + ga)]) P3 hT
    have P4 := P3.ex (Ex.new (o := .tup [.int sh, .int fi, .int (1 + ga)]) hT)
    generalize upd H3 T (.tup [.int sh, .int fi, .int (1 + ga)]) = H4 at K4 P4
    -- many
    refine ⟨_, rfl, _, rfl, _, rfl, p, m, rfl, P4, by omega, by omega, fun d H5 d0 d1 K5 P5 => ⟨_, rfl, p, 5, rfl, P5, by decide, by decide, fun e H6 e0 e1 K6 P6 => ⟨rfl, .inr ⟨_, rfl, d, _, rfl, rfl, .inl ⟨by omega, by omega⟩, m, _, rfl, rfl, ?_⟩⟩⟩⟩
    dsimp only
    generalize hmany : m - d * (if decide (V.int e = V.int 0) = true then 1 else 0) = many
    have hm : 1 ≤ many ∧ many ≤ 4 := by
      rw [← hmany]
      split <;> omega
    have K6' : Kp p H H6 := K4.trans (K5.trans K6)
    -- places
    refine ⟨_, rfl, many, rfl, by omega, by omega, fun pl hpl => ?_⟩
    obtain ⟨hpl0, nplp⟩ := K6'.free P6 hpl
    refine lc_ev (f := fun _ => true) (v := fun x => match x with | .int j => .int (fi + (1 + ga) * j) | x => x) st_r (by rw [List.length_map, List.length_range]; omega) (fun x => rfl) hpl (fun x _ H7 e Q q => q H7 (Ex.refl _)) (fun x hx _ H7 e Q q => ?_) (fun H7 e7 hd7 => ?_)
    · obtain ⟨j, hj, rfl⟩ := List.mem_map.mp hx
      exact ⟨_, rfl, _, rfl, _, rfl, _, _, rfl, rfl, .inl ⟨by omega, by omega⟩, fi, _, rfl, rfl, q H7 (Ex.refl _)⟩
    have d7 : H7 pl = some (.lst (((List.range many.toNat).map fun i : Nat => fi + (1 + ga) * (0 + (i : Int))).map V.int)) := by
      rw [hd7, List.filter_eq_self.mpr (fun _ _ => rfl), List.map_map, List.map_map]
      rfl
    generalize hpls : (List.range many.toNat).map (fun i : Nat => fi + (1 + ga) * (0 + (i : Int))) = pls at d7
    have plen : pls.length = many.toNat := by rw [← hpls, List.length_map, List.length_range]
    have pat : ∀ i : Nat, i < many.toNat → pls[i]? = some (fi + (1 + ga) * (i : Int)) := fun i hi => by
      rw [← hpls, List.getElem?_map, List.getElem?_range hi]
      show some (fi + (1 + ga) * (0 + (i : Int))) = _
      rw [Int.zero_add]
    have plow : ∀ x ∈ pls, 0 ≤ x ∧ x ≤ 96 := fun x hx => by
      obtain ⟨i, hi⟩ := List.getElem?_of_mem hx
      have hl := (List.getElem?_eq_some_iff.mp hi).1
      rw [pat i (by omega)] at hi
      have hi2 : fi + (1 + ga) * (i : Int) = x := Option.some.inj hi
      have hi3 : i = 0 ∨ i = 1 ∨ i = 2 ∨ i = 3 := by omega
      rcases hi3 with rfl | rfl | rfl | rfl <;> omega
    have K7 := K6'.trans (Kp.ex e7 P6)
    have P7 := P6.ex e7
    have ha7 := K7.k a _ nap ha
    -- turn, orderly
    refine ⟨_, rfl, _, rfl, .ref a, zs.length, rfl, .inl ⟨_, sq_of ha7, by rw [List.length_map]⟩, p, _, rfl, P7, by omega, by omega, fun tu H8 t0 t1 K8 P8 => ⟨_, rfl, p, 3, rfl, P8, by decide, by decide, fun o H9 o0 o1 K9 P9 => ⟨o, 0, rfl, rfl, _, _, rfl, ?_⟩⟩⟩
    have K79 := K8.trans K9
    have K9' := K7.trans K79
    have ha9 := K79.k a _ nap ha7
    have d9 := K79.k pl _ nplp d7
    clear hd7 e7 K8 K9 K5 K6 K1 K2 K3
    -- steps
    refine ⟨Nat.zero_le _, fun sl hsl => ?_⟩
    obtain ⟨nslp, asl⟩ := Apart.new (o := .lst []) P9 hsl
    refine ⟨_, rfl, _, rfl, sh, 3, rfl, rfl, .inr ⟨_, rfl, many, _, rfl, rfl, _, rfl, sh, 0, rfl, rfl, .inr ⟨_, rfl, _, _, rfl, rfl, .inl ⟨?_, ?_⟩, _, rfl, ?_, ?_, ?_⟩⟩⟩
    · split <;> omega
    · split <;> omega
    · split <;> split <;> omega
    · split <;> split <;> omega
    have I0 : HI p sl H9 (upd H9 sl (.lst [])) zs [] [] := ⟨upd_same, .nil, Row96.nil zs, (Kp.refl p H9).new P9 hsl, P9.ex (Ex.new hsl), asl⟩
    have key : ∀ {H' xs ts}, HI p sl H9 H' zs xs ts → H' a = some (.lst (zs.map V.str)) ∧ H' pl = some (.lst (pls.map V.int)) := fun {H' xs ts} h => ⟨h.2.2.2.1.k a _ nap ha9, h.2.2.2.1.k pl _ nplp d9⟩
    refine for_range (fun i σ' H' => ∃ v8 v12 xs ts, σ' = [some (.ref p), some (.ref a), some (.int m), some (.int sh), some (.int fi), some (.int (1 + ga)), some (.int many), some (.ref pl), v8, some (.int tu), some (.bl (decide ((0 : Int) < o))), some (.ref sl), v12, none, none, none] ∧ HI p sl H9 H' zs xs ts ∧ ts.length = i ∧ ∀ (j : Nat) t, ts[j]? = some t → t.1 = fi + (1 + ga) * (j : Int)) ⟨none, none, [], [], rfl, I0, rfl, fun j t h => (nomatch h)⟩ ?_ ?_
    · rintro i σ' H' hi ⟨v8, v12, xs, ts, rfl, I, hl, hat⟩
      have him : i < many.toNat := by
        revert hi
        (first | dsimp only | skip)
        split <;> split <;> omega
      refine ⟨fun σ2 H2 => ∃ w, w ∈ zs ∧ σ2 = [some (.ref p), some (.ref a), some (.int m), some (.int sh), some (.int fi), some (.int (1 + ga)), some (.int many), some (.ref pl), some (.int (0 + (i : Int))), some (.int tu), some (.bl (decide ((0 : Int) < o))), some (.ref sl), some (.str w), none, none, none] ∧ HI p sl H9 H2 zs xs ts, ?_, ?_⟩
      · obtain ⟨ka, kp⟩ := key I
        refine ⟨_, rfl, _, rfl, ite2 (fun _ => ?_) (fun _ => ?_)⟩
        · have h0 : 0 ≤ (tu + (0 + (i : Int))) % (zs.length : Int) := Int.emod_nonneg _ (by omega)
          have h1 : (tu + (0 + (i : Int))) % (zs.length : Int) < (zs.length : Int) := Int.emod_lt_of_pos _ (by omega)
          obtain ⟨w, hw⟩ : ∃ w, zs[((tu + (0 + (i : Int))) % (zs.length : Int)).toNat]? = some w := ⟨_, List.getElem?_eq_getElem (by omega)⟩
          refine ⟨_, rfl, _, rfl, _, rfl, tu, _, rfl, rfl, .inl ⟨_, rfl, _, rfl, .ref a, zs.length, rfl, .inl ⟨_, sq_of ka, by rw [List.length_map]⟩, _, _, rfl, rfl, (by show (0 : Int) < (zs.length : Int); omega), ?_⟩⟩
          refine .inl ⟨a, _, _, .str w, rfl, rfl, sq_of ka, at_of (j := ((tu + (0 + (i : Int))) % (zs.length : Int)).toNat) (by omega) (by rw [List.getElem?_map, hw]; rfl), w, List.mem_of_getElem? hw, rfl, I⟩
        · refine ⟨_, rfl, _, rfl, p, a, _, rfl, I.2.2.2.2.1, nap, .inl ka, (by intro z; rw [List.map_eq_nil_iff] at z; exact zne z), (by rw [List.length_map]; omega), fun x H2 hx K2 P2 => ?_⟩
          obtain ⟨w, hw, rfl⟩ := List.mem_map.mp hx
          exact ⟨w, hw, rfl, I.draw nslp K2 P2⟩
      · rintro σ2 H2 ⟨w, hw, rfl, I2⟩
        obtain ⟨ka, kp⟩ := key I2
        have hp1 := pat i him
        have h0 : 0 ≤ (0 + (i : Int) + 1) % many := Int.emod_nonneg _ (by omega)
        have h1 : (0 + (i : Int) + 1) % many < many := Int.emod_lt_of_pos _ (by omega)
        have hp2 := pat ((0 + (i : Int) + 1) % many).toNat (by omega)
        have low1 := plow _ (List.mem_of_getElem? hp1)
        have low2 := plow _ (List.mem_of_getElem? hp2)
        generalize fi + (1 + ga) * ((((0 + (i : Int) + 1) % many).toNat : Nat) : Int) = y2 at hp2 low2
        refine ⟨_, rfl, .inl ⟨rfl, _, sq_of I2.1⟩, _, rfl, _, rfl, .inl ⟨pl, _, _, .int (fi + (1 + ga) * (i : Int)), rfl, rfl, sq_of kp, at_of (j := i) (by omega) (by rw [List.getElem?_map, hp1]; rfl), _, rfl, ?_⟩⟩
        refine ⟨_, rfl, _, rfl, _, _, rfl, rfl, .inl ⟨_, rfl, _, rfl, _, many, rfl, rfl, (by show 0 < many; omega), .inl ⟨pl, _, _, .int y2, rfl, rfl, sq_of kp, at_of (j := ((0 + (i : Int) + 1) % many).toNat) (by omega) (by rw [List.getElem?_map, hp2]; rfl), (by show 3 ≤ sizeLine; decide), fun q hq => ?_⟩⟩⟩
        have I3 := I2.ex nslp (Ex.new (o := .tup [.int (fi + (1 + ga) * (i : Int)), .str w, .int y2]) hq)
        have hst : StepAt (upd H2 q (.tup [.int (fi + (1 + ga) * (i : Int)), .str w, .int y2])) (.ref q) (fi + (1 + ga) * (i : Int), w, y2) := ⟨q, rfl, upd_same⟩
        have hlx : xs.length = ts.length := I2.2.1.len
        refine ⟨sl, xs, .ref q, rfl, rfl, I3.1, sz_lt (by omega), _, _, _, _, rfl, I3.add nslp hsl hst ?_, by rw [List.length_append, hl]; rfl, fun j t hj => ?_⟩
        · have far : ∀ u ∈ ts, u.1 ≠ fi + (1 + ga) * (i : Int) := fun u hu => by
            obtain ⟨j, hj⟩ := List.getElem?_of_mem hu
            have hjl := (List.getElem?_eq_some_iff.mp hj).1
            rw [hat j u hj]
            intro e
            have e2 : (1 + ga) * ((i : Int) - (j : Int)) = 0 := by rw [Int.mul_sub]; omega
            rcases Int.mul_eq_zero.mp e2 with z | z <;> omega
          refine I3.2.2.1.add ⟨low1, hw, low2⟩ (fun hm => far _ hm rfl) ?_
          have hc : cnt (fi + (1 + ga) * (i : Int), w, y2) ts = 0 := by
            unfold cnt
            rw [List.length_eq_zero_iff, List.filter_eq_nil_iff]
            intro u hu
            have := far u hu
            simpa using this
          omega
        · rw [List.getElem?_append] at hj
          split at hj
          · exact hat j t hj
          · rw [List.getElem?_singleton] at hj
            split at hj
            · cases hj
              have : j = i := by omega
              rw [this]
            · cases hj
    · rintro σ' H' ⟨v8, v12, xs, ts, rfl, I, hl, hat⟩
      have hl4 : ts.length ≤ 4 := by
        rw [hl]
        (first | dsimp only | skip)
        split <;> split <;> omega
      clear hl hat
      have plne : pls.map V.int ≠ [] := fun z => by
        have z2 := congrArg List.length z
        rw [List.length_map, plen] at z2
        simp at z2
        omega
      have zne2 : zs.map V.str ≠ [] := fun z => by rw [List.map_eq_nil_iff] at z; exact zne z
      -- more
      refine ⟨fun σ2 H2 => ∃ mo : Int, 0 ≤ mo ∧ mo ≤ 3 ∧ σ2 = [some (.ref p), some (.ref a), some (.int m), some (.int sh), some (.int fi), some (.int (1 + ga)), some (.int many), some (.ref pl), v8, some (.int tu), some (.bl (decide ((0 : Int) < o))), some (.ref sl), v12, some (.int mo), none, none] ∧ HI p sl H9 H2 zs xs ts, ?_, ?_⟩
      · refine ⟨_, rfl, p, 4, rfl, I.2.2.2.2.1, by decide, by decide, fun d H2 d0 d1 K2 P2 => ?_⟩
        have I2 := I.draw nslp K2 P2
        refine ⟨_, rfl, _, rfl, _, rfl, ite2 (fun _ => ?_) (fun _ => ?_)⟩
        · exact .inr ⟨true, rfl, d, 1, rfl, rfl, .inr ⟨by decide, by decide⟩, d * 1, by omega, by omega, rfl, I2⟩
        · refine ⟨_, rfl, p, 2, rfl, P2, by decide, by decide, fun e H3 e0 e1 K3 P3 => ⟨rfl, .inr ⟨_, rfl, d, _, rfl, rfl, .inl ⟨by omega, by omega⟩, _, ?_, ?_, rfl, I2.draw nslp K3 P3⟩⟩⟩
          · split <;> omega
          · split <;> omega
      rintro σ2 H2 ⟨mo, mo0, mo3, rfl, I2⟩
      refine ⟨_, rfl, _, rfl, .ref sl, xs.length, rfl, .inl ⟨_, sq_of I2.1, rfl⟩, rfl, .inr ⟨_, rfl, mo, _, rfl, rfl, _, rfl, ?_, ?_, ?_⟩⟩
      · split <;> omega
      · split <;> omega
      refine for_range (fun i σ' H' => ∃ v8 v14 v15 xs' ts', σ' = [some (.ref p), some (.ref a), some (.int m), some (.int sh), some (.int fi), some (.int (1 + ga)), some (.int many), some (.ref pl), v8, some (.int tu), some (.bl (decide ((0 : Int) < o))), some (.ref sl), v12, some (.int mo), v14, v15] ∧ HI p sl H9 H' zs xs' ts' ∧ ts'.length ≤ 4 + i ∧ (1 ≤ i ∨ ts ≠ [] → ts' ≠ [])) ⟨v8, none, none, xs, ts, rfl, I2, by omega, fun h => h.elim (fun z => absurd z (by decide)) id⟩ ?_ ?_
      · rintro i σ' H' hi ⟨w8, w14, w15, xs', ts', rfl, I3, hl3, hne3⟩
        have hi4 : i < 4 := by
          revert hi
          split <;> omega
        refine ⟨_, rfl, _, rfl, p, pl, _, rfl, I3.2.2.2.2.1, nplp, .inl (key I3).2, plne, (by rw [List.length_map]; omega), fun x1 H4 hx1 K4 P4 => ?_⟩
        have I4 := I3.draw nslp K4 P4
        refine ⟨_, rfl, _, rfl, p, a, _, rfl, P4, nap, .inl (key I4).1, zne2, (by rw [List.length_map]; omega), fun x2 H5 hx2 K5 P5 => ?_⟩
        have I5 := I4.draw nslp K5 P5
        refine ⟨_, rfl, _, rfl, p, pl, _, rfl, P5, nplp, .inl (key I5).2, plne, (by rw [List.length_map]; omega), fun x3 H6 hx3 K6 P6 => ?_⟩
        have I6 := I5.draw nslp K6 P6
        obtain ⟨i1, hi1, rfl⟩ := List.mem_map.mp hx1
        obtain ⟨w, hw, rfl⟩ := List.mem_map.mp hx2
        obtain ⟨i3, hi3, rfl⟩ := List.mem_map.mp hx3
        refine ⟨(by show 3 ≤ sizeLine; decide), fun q hq => ?_⟩
        have I7 := I6.ex nslp (Ex.new (o := .tup [.int i1, .str w, .int i3]) hq)
        have hst : StepAt (upd H6 q (.tup [.int i1, .str w, .int i3])) (.ref q) (i1, w, i3) := ⟨q, rfl, upd_same⟩
        generalize upd H6 q (.tup [.int i1, .str w, .int i3]) = H7 at I7 hst
        have okz : ∀ z ∈ ts', OkS z := fun z hz => ok_of_nm (znm _ (I7.2.2.1.good z hz).2.1)
        have okt : OkS (i1, w, i3) := ok_of_nm (znm _ hw)
        have hlx : xs'.length = ts'.length := I7.2.1.len
        refine ⟨_, rfl, _, rfl, encS (i1, w, i3), ts'.map encS, hst.dp, .lst (sq_of I7.1) I7.2.1.dps, encS_shaped okt, encSs_shaped okz, ?_⟩
        rw [encSs_any]
        refine ⟨_, rfl, ?_⟩
        by_cases hm : (i1, w, i3) ∈ ts'
        · rw [decide_eq_true hm]
          exact iteF (iteF ⟨_, _, _, xs', ts', rfl, I7, by omega, fun _ z => by rw [z] at hm; cases hm⟩)
        · rw [decide_eq_false hm]
          refine iteT ?_
          refine ⟨_, rfl, sl, rfl, ⟨_, sq_of I7.1⟩, fun D hD => ?_⟩
          refine lc_ev (f := hit H7 i1) (v := fun _ => .int 1) (st_l (sq_of I7.1)) (by omega) (fun x => rfl) hD (fun x mx H8 e Q q => ?_) (fun x mx _ H8 e Q q => q H8 (Ex.refl _)) (fun H8 e8 hd8 => ?_)
          · obtain ⟨j, hj⟩ := List.getElem?_of_mem mx
            obtain ⟨u, hu, b, rfl, hb⟩ := I7.2.1.at hj
            obtain ⟨c, hce, hc⟩ := hst
            cases hce
            refine ⟨_, rfl, .inr (.inl ⟨b, _, 0, _, rfl, rfl, st_of (e _ _ hb), (by rfl), ?_⟩)⟩
            refine ⟨_, rfl, .inr (.inl ⟨_, _, 0, _, rfl, rfl, st_of (e _ _ hc), (by rfl), rfl, _, rfl, ?_⟩)⟩
            have e1 : decide (V.int u.1 = V.int i1) = hit H7 i1 (.ref b) := by
              rw [hit_at (t := u) ⟨b, rfl, hb⟩, Bool.eq_iff_iff]
              simp
            rw [e1]
            exact q H8 (Ex.refl _)
          · have I8 := I7.ex nslp e8
            have hst8 := hst.tu (Tu.ex e8)
            refine ⟨.ref D, _, rfl, .inl ⟨_, sq_of hd8, rfl⟩, _, 3, rfl, rfl, _, rfl, ?_⟩
            have hcn : ((((xs'.filter (hit H7 i1)).map fun _ => V.int 1).length : Nat) : Int) = (cnt (i1, w, i3) ts' : Int) := by
              rw [List.length_map, hit_len I7.2.1]
              rfl
            refine ite2 (fun hlt => ?_) (fun hge => ?_)
            · have hlt2 : cnt (i1, w, i3) ts' < 3 := by
                have := of_decide_eq_true hlt
                omega
              have I9 := I8.add nslp hsl hst8 (I8.2.2.1.add ⟨plow _ hi1, hw, plow _ hi3⟩ hm hlt2)
              exact ⟨_, rfl, .inl ⟨rfl, _, sq_of I8.1⟩, _, rfl, sl, xs', .ref q, rfl, rfl, I8.1, sz_lt (by omega), _, _, _, _, _, rfl, I9, by rw [List.length_append, List.length_singleton]; omega, fun _ z => by simp at z⟩
            · refine ⟨_, _, _, xs', ts', rfl, I8, by omega, fun _ z => hge ?_⟩
              subst z
              refine decide_eq_true ?_
              rw [hcn]
              show ((0 : Nat) : Int) < 3
              decide
      · rintro σ' H' ⟨w8, w14, w15, xs', ts', rfl, I3, hl3, hne3⟩
        have hl8 : ts'.length ≤ 12 := by
          revert hl3
          split <;> omega
        have hne : ts' ≠ [] := by
          refine hne3 ?_
          by_cases hz : ts = []
          · refine .inl ?_
            have hx0 : xs.length = 0 := by rw [I2.2.1.len, hz]; rfl
            rw [hx0]
            rw [if_pos (show decide (V.int ((0 : Nat) : Int) = V.int 0) = true from by simp)]
            omega
          · exact .inr hz
        clear hl3 hne3
        obtain ⟨t0, tr, rfl⟩ : ∃ t0 tr, ts' = t0 :: tr := by
          cases ts' with
          | nil => exact absurd rfl hne
          | cons t0 tr => exact ⟨t0, tr, rfl⟩
        have hxs := I3.2.1
        obtain ⟨x0, xr, rfl⟩ : ∃ x0 xr, xs' = x0 :: xr := by
          cases xs' with
          | nil => exact (nomatch hxs)
          | cons x0 xr => exact ⟨x0, xr, rfl⟩
        obtain ⟨t, ht, b0, rfl, hb0⟩ := hxs.at (i := 0) rfl
        cases ht
        have g0' := (I3.2.2.1.good t0 List.mem_cons_self).1
        refine ⟨_, rfl, .inl ⟨sl, _, 0, .ref b0, rfl, rfl, sq_of I3.1, (show atI _ ((0 : Nat) : Int) = _ from atI_nat rfl), .inr (.inl ⟨b0, _, 0, _, rfl, rfl, st_of hb0, (by rfl), ?_⟩)⟩⟩
        refine ⟨_, rfl, _, rfl, p, pl, _, rfl, I3.2.2.2.2.1, nplp, .inl (key I3).2, plne, (by rw [List.length_map]; omega), fun x1 H4 hx1 K4 P4 => ?_⟩
        have I4 := I3.draw nslp K4 P4
        obtain ⟨i1, hi1, rfl⟩ := List.mem_map.mp hx1
        refine ⟨(by show 2 ≤ sizeLine; decide), fun q hq => ?_⟩
        have I5 := I4.ex nslp (Ex.new (o := .lst [.int t0.1, .int i1]) hq)
        have nqp : q ≠ p := fun z => P4.here (z ▸ hq)
        refine ⟨_, rfl, p, 2, rfl, I5.2.2.2.2.1, by decide, by decide, fun d H6 d0 d1 K6 P6 => ?_⟩
        have hq6 := K6.k q _ nqp upd_same
        have I6 := I5.draw nslp K6 P6
        have hst : ∃ st : Int, ([.int t0.1, .int i1] : List V)[d.toNat]? = some (.int st) ∧ 0 ≤ st ∧ st ≤ 96 := by
          have hd : d = 0 ∨ d = 1 := by omega
          rcases hd with rfl | rfl
          · exact ⟨_, rfl, g0'⟩
          · exact ⟨_, rfl, plow _ hi1⟩
        obtain ⟨st, hst, st0, st96⟩ := hst
        refine .inl ⟨q, _, d, .int st, rfl, rfl, sq_of hq6, at_of (j := d.toNat) (by omega) hst, ?_⟩
        refine ⟨.ref sl, rfl, ?_⟩
        dsimp only [tNil]
        refine tupof_go (K := K) (.inl I6.1) fun tp H7 e7 htp => ?_
        have I7 := I6.ex nslp e7
        refine ⟨(by show 2 ≤ sizeLine; decide), fun q2 hq2 => ?_⟩
        have I8 := I7.ex nslp (Ex.new (o := .tup [.int st, .ref tp]) hq2)
        refine k q2 tp _ st _ _ ⟨I8.2.2.1.row znm (by simp) (by omega), ⟨st0, st96⟩, fun u hu => ?_, hl8⟩ (K9'.trans I8.2.2.2.1) I8.2.2.2.2.1 upd_same (Ex.new hq2 _ _ htp) I8.2.1
        obtain ⟨⟨_, a2⟩, _, _, a4⟩ := I8.2.2.1.good u hu
        exact ⟨a2, a4⟩
theorem cnt_perm {u : Stp} {ts us : List Stp} (p : ts.Perm us) : cnt u ts = cnt u us := (p.filter _).length_eq
theorem cnt_sub {u : Stp} {ts us : List Stp} (p : ts.Sublist us) : cnt u ts ≤ cnt u us := (p.filter _).length_le
theorem GoodRow.perm {ts us : List Stp} (h : GoodRow us) (p : ts.Perm us) : GoodRow ts :=
  ⟨by rw [p.length_eq]; exact h.least, by rw [p.length_eq]; exact h.most, fun t ht => h.good t (p.mem_iff.mp ht), p.nodup_iff.mpr h.nd, fun t ht => by rw [cnt_perm p]; exact h.few t (p.mem_iff.mp ht)⟩
theorem GoodRow.sub {ts us : List Stp} (h : GoodRow us) (p : ts.Sublist us) (n : 1 ≤ ts.length) : GoodRow ts :=
  ⟨n, Nat.le_trans p.length_le h.most, fun t ht => h.good t (p.subset ht), h.nd.sublist p, fun t ht => Nat.le_trans (cnt_sub p) (h.few t (p.subset ht))⟩
theorem GoodRow.put {ts : List Stp} {t : Stp} (hl : ts.length ≤ 19) (hg : ∀ u ∈ ts, GoodStep u) (nd : ts.Nodup) (hf : ∀ u ∈ ts, cnt u ts ≤ 3) (ht : GoodStep t) (hn : t ∉ ts) (hc : cnt t ts ≤ 2) : GoodRow (t :: ts) :=
  ⟨by simp, by simp; omega, fun u hu => by
    rcases List.mem_cons.mp hu with rfl | hu
    · exact ht
    · exact hg u hu, List.nodup_cons.mpr ⟨hn, nd⟩, fun u hu => by
    have e : cnt u (t :: ts) = (if t.1 = u.1 then 1 else 0) + cnt u ts := by
      rw [show t :: ts = [t] ++ ts from rfl, cnt_app, cnt_one]
    rw [e]
    by_cases h : t.1 = u.1
    · rw [if_pos h, cnt_same h.symm]
      omega
    · rw [if_neg h]
      rcases List.mem_cons.mp hu with rfl | hu
      · exact absurd rfl h
      · have := hf u hu
        omega⟩
/-- all but the one at n -/
def but (ts : List Stp) (n : Nat) : List Stp := ts.take n ++ ts.drop (n + 1)
theorem but_sub (ts : List Stp) (n : Nat) : (but ts n).Sublist ts := by
  unfold but
  have h := List.Sublist.append (List.Sublist.refl (ts.take n)) (List.drop_sublist_drop_left ts (Nat.le_succ n))
  rw [List.take_append_drop] at h
  exact h
theorem but_perm {ts : List Stp} {n : Nat} {t : Stp} (h : ts[n]? = some t) : ts.Perm (t :: but ts n) := by
  obtain ⟨l1, e1⟩ := List.getElem?_eq_some_iff.mp h
  have e : ts = ts.take n ++ t :: ts.drop (n + 1) := by rw [← e1, List.getElem_cons_drop, List.take_append_drop]
  unfold but
  conv => lhs; rw [e]
  exact List.perm_middle
/-- another one laid at n -/
theorem GoodRow.laid {ts : List Stp} {n : Nat} {t u : Stp} (h : GoodRow ts) (hl : ts.length ≤ 12) (low : ∀ x ∈ ts, x.1 ≤ 96) (ht : ts[n]? = some t) (hu : GoodStep u) (hx : u.1 = t.1 ∨ u.1 = 97) (hn : u ∉ but ts n) : GoodRow (ts.take n ++ [u] ++ ts.drop (n + 1)) := by
  have hp := but_perm ht
  have hs := but_sub ts n
  have hc : cnt u (but ts n) ≤ 2 := by
    rcases hx with e | e
    · rw [cnt_same e]
      have h1 : cnt t ts = cnt t (t :: but ts n) := cnt_perm hp
      rw [show t :: but ts n = [t] ++ but ts n from rfl, cnt_app, cnt_one, if_pos rfl] at h1
      have := h.few t (List.mem_of_getElem? ht)
      omega
    · have h0 : cnt u (but ts n) = 0 := by
        unfold cnt
        rw [List.length_eq_zero_iff, List.filter_eq_nil_iff]
        intro x hx
        have := low x (hs.subset hx)
        simp
        omega
      omega
  have hr := GoodRow.put (by have := hs.length_le; omega) (fun x hx => h.good x (hs.subset hx)) (h.nd.sublist hs) (fun x hx => Nat.le_trans (cnt_sub hs) (h.few x (hs.subset hx))) hu hn hc
  refine hr.perm ?_
  rw [List.append_assoc]
  exact List.perm_middle
theorem zz_nm : IsNm ("zz" : Str) := ⟨by decide +kernel, by decide +kernel, by decide +kernel⟩
theorem sl_take {K : PySem.W.Frag} {H : Hp} {a : Addr} {xs : List V} {n : Nat} {Q : VK} (h : H a = some (.lst xs)) (k : ∀ l, H l = none → Q (.ref l) (upd H l (.lst (xs.take n)))) : rSlL K (.ref a) none (some (n : Int)) H Q :=
  ⟨a, xs, rfl, sq_of h, fun l hl => by rw [cut_take]; exact k l hl⟩
theorem sl_drop1 {K : PySem.W.Frag} {σ : L2.St} {H : Hp} {a : Addr} {xs : List V} {n : Nat} {Q : VK} (h : H a = some (.lst xs)) (k : ∀ l, H l = none → Q (.ref l) (upd H l (.lst (xs.drop (n + 1))))) : tNoPart σ H (fun u H3 => rSlL K (.ref a) (some ((n : Int) + 1)) u H3 Q) :=
  ⟨a, xs, rfl, sq_of h, fun l hl => by rw [show cutV xs (some ((n : Int) + 1)) none = xs.drop (n + 1) from cut_drop xs (n + 1)]; exact k l hl⟩
abbrev s__law_changed : Stmt := top 26
theorem sc__law_changed : FnScope ["_law_pool_here", "_law_start", "_law_steps", "_law_kind", "_law_at", "_law_step", "_law_laid"] ["_law_pool_here", "_law_start", "_law_steps"] (defScope s__law_changed) := ⟨rfl, rfl, rfl, by decide +kernel, rfl, by decide +kernel, by decide +kernel⟩
def spChanged : Sp := fun vs H Q _ => ∃ (p a : Addr) (xs : List V) (st : Int) (ts : List Stp) (zs : List Str), vs = [.ref p, .int st, .ref a] ∧ Pool H p ∧ a ≠ p ∧ H a = some (.lst xs) ∧ Rw H xs ts ∧ Drawn zs st ts ∧
  ∀ q b ys st' ts' H', GoodRow ts' → 0 ≤ st' → st' ≤ 99 → Kp p H H' → Pool H' p → b ≠ p → H' q = some (.tup [.int st', .ref b]) → H' b = some (.lst ys) → Rw H' ys ts' → Q (.ref q) H'
theorem ok_changed (G : Gz mg) (D : Df K mg "_law_changed" s__law_changed f fd ["_law_pool_here", "_law_start", "_law_steps"]) (c__law_draw : Callee P w K mg base CXn 1 "_law_draw" 2 spDraw) (c__law_pick : Callee P w K mg base CXn 2 "_law_pick" 2 spPick) : Callee P w K mg base CXn 3 "_law_changed" 3 spChanged := by
  refine D.callee (D.fn.ok sc__law_changed (fun vs H Q E h => ?_) (fun cdv A outer s H vs Q E hr h => ⟨_, PSs.nox (pss_cons (ps_set (i := 3) sc__law_changed.nd rfl (Or.inl rfl) (pe_cl (E := En) c__law_draw (hr.mono (by decide)) rfl passN (pa_cons (pv 0) (pa_cons pe_int pa_nil)))) (pss_cons (ps_set (i := 4) sc__law_changed.nd rfl (Or.inl rfl) (pe_cl (E := En) c__law_draw (hr.mono (by decide)) rfl passN (pa_cons (pv 0) (pa_cons (pe_callB (lenK (K := K) rfl) rfl G.g_len PySem.boot_len (pa_cons (pv 2) pa_nil)) pa_nil)))) (pss_cons (ps_set (i := 5) sc__law_changed.nd rfl (Or.inl rfl) (pe_ix (ixK (K := K) rfl) (pv 2) (pv 4) (fun _ _ => rfl))) (pss_cut (ps_if (pt_cmpR op_eq (pv 3) pe_int (nomark _)) (pss_one (ps_ret (pe_tup (pa_cons (pe_cl (E := En) c__law_pick (hr.mono (by decide)) rfl passN (pa_cons (pv 0) (pa_cons (pe_lst (pa_cons (pe_ix (ixK (K := K) rfl) (pv 5) pe_int (fun _ _ => rfl)) (pa_cons (pe_ix (ixK (K := K) rfl) (pv 5) pe_int (fun _ _ => rfl)) (pa_cons (pv 1) (pa_cons pe_int pa_nil))))) pa_nil))) (pa_cons (pv 2) pa_nil))))) pss_nil) (pss_cut (ps_if (PW.pt (pw_and (pt_cmpR op_eq (pv 3) pe_int (nomark _)) (pw_and1 (pt_cmpR op_gt (pe_callB (lenK (K := K) rfl) rfl G.g_len PySem.boot_len (pa_cons (pv 2) pa_nil)) pe_int (nomark _))))) (pss_one (ps_ret (pe_tup (pa_cons (pv 1) (pa_cons (pe_op op_cat (pe_slice sl_list (pv 2) po_none (po_some (pv 4))) (pe_slice sl_list (pv 2) (po_some (pe_op op_add (pv 4) pe_int)) po_none)) pa_nil))))) pss_nil) (pss_cut (ps_if (pt_cmpR op_eq (pv 3) pe_int (nomark _)) (pss_one (ps_ret (pe_tup (pa_cons (pv 1) (pa_cons (pe_op op_cat (pv 2) (pe_lst (pa_cons (pe_tup (pa_cons pe_int (pa_cons (pe_ix (ixK (K := K) rfl) (pv 5) pe_int (fun _ _ => rfl)) (pa_cons (pe_ix (ixK (K := K) rfl) (pv 5) pe_int (fun _ _ => rfl)) pa_nil)))) pa_nil))) pa_nil))))) pss_nil) (pss_cut (ps_set (i := 6) sc__law_changed.nd rfl (Or.inl rfl) (pe_ix (ixK (K := K) rfl) (pe_lst (pa_cons (pe_tup (pa_cons (pe_ix (ixK (K := K) rfl) (pv 5) pe_int (fun _ _ => rfl)) (pa_cons pe_str (pa_cons (pe_ix (ixK (K := K) rfl) (pv 5) pe_int (fun _ _ => rfl)) pa_nil)))) (pa_cons (pe_tup (pa_cons pe_int (pa_cons (pe_ix (ixK (K := K) rfl) (pv 5) pe_int (fun _ _ => rfl)) (pa_cons (pe_ix (ixK (K := K) rfl) (pv 5) pe_int (fun _ _ => rfl)) pa_nil)))) (pa_cons (pe_tup (pa_cons (pe_ix (ixK (K := K) rfl) (pv 5) pe_int (fun _ _ => rfl)) (pa_cons (pe_ix (ixK (K := K) rfl) (pv 5) pe_int (fun _ _ => rfl)) (pa_cons pe_int pa_nil)))) (pa_cons (pv 5) pa_nil))))) (pe_cl (E := En) c__law_draw (hr.mono (by decide)) rfl passN (pa_cons (pv 0) (pa_cons pe_int pa_nil))) (fun _ _ => rfl))) (pss_cut (ps_if (pt_cmpR (op_inD (room65 hr)) (pv 6) (pe_op op_cat (pe_slice sl_list (pv 2) po_none (po_some (pv 4))) (pe_slice sl_list (pv 2) (po_some (pe_op op_add (pv 4) pe_int)) po_none)) (by rfl)) (pss_one (ps_ret (pe_tup (pa_cons (pv 1) (pa_cons (pv 2) pa_nil))))) pss_nil) (pss_one (ps_ret (pe_tup (pa_cons (pv 1) (pa_cons (pe_op op_cat (pe_op op_cat (pe_slice sl_list (pv 2) po_none (po_some (pv 4))) (pe_lst (pa_cons (pv 6) pa_nil))) (pe_slice sl_list (pv 2) (po_some (pe_op op_add (pv 4) pe_int)) po_none)) pa_nil))))))))))))), ?_⟩))
  · obtain ⟨_, _, _, _, _, _, rfl, _⟩ := h
    rfl
  · obtain ⟨p, a, xs, st, ts, zs, rfl, hP, nap, ha, hw, dr, k⟩ := h
    have hxl := hw.len
    have hle := dr.row.least
    have hsh := dr.short
    refine ⟨_, rfl, p, 6, rfl, hP, by decide, by decide, fun kd H1 k0 k5 K1 P1 => ?_⟩
    have ha1 := K1.k a _ nap ha
    refine ⟨_, rfl, _, rfl, .ref a, xs.length, rfl, .inl ⟨_, sq_of ha1, rfl⟩, p, _, rfl, P1, by omega, by omega, fun at_ H2 a0 a1 K2 P2 => ?_⟩
    obtain ⟨n, rfl⟩ := Int.eq_ofNat_of_zero_le a0
    have hn : n < xs.length := by omega
    have ha2 := K2.k a _ nap ha1
    have KH := K1.trans K2
    have hw2 := hw.tu (KH.tu hP)
    obtain ⟨x, hx⟩ : ∃ x, xs[n]? = some x := ⟨_, List.getElem?_eq_getElem hn⟩
    obtain ⟨t, ht, b, rfl, hb⟩ := hw2.at hx
    have gt := dr.row.good t (List.mem_of_getElem? ht)
    have lt := dr.low t (List.mem_of_getElem? ht)
    have low : ∀ x ∈ ts, x.1 ≤ 96 := fun x hx => (dr.low x hx).1
    refine ⟨_, rfl, _, rfl, .inl ⟨a, _, _, .ref b, rfl, rfl, sq_of ha2, at_of (j := n) rfl hx, ?_⟩⟩
    have same : ∀ {σ' : L2.St} {H' : Hp}, (fun σ' H' => σ' = [some (V.ref p), some (V.int st), some (V.ref a), some (V.int kd), some (V.int (n : Int)), some (V.ref b), none] ∧ H' = H2) σ' H' → σ' = [some (V.ref p), some (V.int st), some (V.ref a), some (V.int kd), some (V.int (n : Int)), some (V.ref b), none] ∧ H' = H2 := fun h => h
    -- another start
    refine ⟨fun σ' H' => σ' = [some (V.ref p), some (V.int st), some (V.ref a), some (V.int kd), some (V.int (n : Int)), some (V.ref b), none] ∧ H' = H2, ?_, ?_⟩
    · refine ⟨_, rfl, rfl, _, rfl, ite2 (fun _ => ?_) (fun _ => ⟨rfl, rfl⟩)⟩
      refine ⟨_, rfl, _, rfl, .inr (.inl ⟨b, _, 0, _, rfl, rfl, st_of hb, (by rfl), ?_⟩)⟩
      refine ⟨_, rfl, .inr (.inl ⟨b, _, 2, _, rfl, rfl, st_of hb, (by rfl), ?_⟩)⟩
      refine ⟨_, rfl, (by show 4 ≤ sizeLine; decide), fun l hl => ?_⟩
      have nlp : l ≠ p := fun z => P2.here (z ▸ hl)
      refine ⟨p, l, _, rfl, P2.ex (Ex.new hl), nlp, .inl upd_same, (by simp), (by show 4 ≤ 1000; decide), fun y H4 hy K4 P4 => ?_⟩
      obtain ⟨st', rfl, h0, h9⟩ : ∃ st' : Int, y = .int st' ∧ 0 ≤ st' ∧ st' ≤ 99 := by
        have h00 := dr.st0
        simp at hy
        rcases hy with rfl | rfl | rfl | rfl
        · exact ⟨_, rfl, gt.1, gt.2.1⟩
        · exact ⟨_, rfl, gt.2.2.2.1, gt.2.2.2.2⟩
        · exact ⟨_, rfl, h00.1, by omega⟩
        · exact ⟨_, rfl, by decide, by decide⟩
      have K24 := (Kp.ex (Ex.new (o := .lst [.int t.1, .int t.2.2, .int st, .int 99]) hl) P2).trans K4
      refine ⟨_, rfl, (by show 2 ≤ sizeLine; decide), fun q hq => ?_⟩
      have e5 : Ex H4 (upd H4 q (.tup [.int st', .ref a])) := Ex.new hq
      exact k q a xs st' ts _ dr.row h0 h9 ((KH.trans K24).trans (Kp.ex e5 P4)) (P4.ex e5) nap upd_same (e5 _ _ (K24.k a _ nap ha2)) ((hw2.tu (K24.tu P2)).ex e5)
    rintro σ' H' ⟨rfl, e2⟩
    rw [e2]
    clear e2 H'
    have PH := P2
    -- one left out
    refine ⟨fun σ' H' => σ' = [some (V.ref p), some (V.int st), some (V.ref a), some (V.int kd), some (V.int (n : Int)), some (V.ref b), none] ∧ H' = H2, ?_, ?_⟩
    · refine ⟨_, rfl, rfl, _, rfl, ite2 (fun _ => ?_) (fun _ => iteF ⟨rfl, rfl⟩)⟩
      refine ⟨_, rfl, .ref a, xs.length, rfl, .inl ⟨_, sq_of ha2, rfl⟩, _, _, rfl, rfl, _, rfl, ite2 (fun hgt => ?_) (fun _ => ⟨rfl, rfl⟩)⟩
      have hgt2 : 1 < xs.length := by
        have := of_decide_eq_true hgt
        omega
      refine ⟨_, rfl, _, rfl, _, rfl, _, rfl, sl_take ha2 fun l1 hl1 => ?_⟩
      have e3 : Ex H2 (upd H2 l1 (.lst (xs.take n))) := Ex.new hl1
      have hL1 : upd H2 l1 (.lst (xs.take n)) l1 = some (.lst (xs.take n)) := upd_same
      generalize upd H2 l1 (.lst (xs.take n)) = H3 at e3 hL1
      refine ⟨_, rfl, _, rfl, _, _, rfl, rfl, _, rfl, sl_drop1 (e3 _ _ ha2) fun l2 hl2 => ?_⟩
      have e4 : Ex H3 (upd H3 l2 (.lst (xs.drop (n + 1)))) := Ex.new hl2
      have hL2 : upd H3 l2 (.lst (xs.drop (n + 1))) l2 = some (.lst (xs.drop (n + 1))) := upd_same
      generalize upd H3 l2 (.lst (xs.drop (n + 1))) = H4 at e4 hL2
      refine ⟨l1, l2, _, _, rfl, rfl, e4 _ _ hL1, hL2, sz_of (by rw [List.length_take, List.length_drop]; omega), fun l3 hl3 => ?_⟩
      have e5 : Ex H4 (upd H4 l3 (.lst (xs.take n ++ xs.drop (n + 1)))) := Ex.new hl3
      have hL3 : upd H4 l3 (.lst (xs.take n ++ xs.drop (n + 1))) l3 = some (.lst (xs.take n ++ xs.drop (n + 1))) := upd_same
      generalize upd H4 l3 (.lst (xs.take n ++ xs.drop (n + 1))) = H5 at e5 hL3
      refine ⟨(by show 2 ≤ sizeLine; decide), fun q hq => ?_⟩
      have e6 : Ex H5 (upd H5 q (.tup [.int st, .ref l3])) := Ex.new hq
      have e26 : Ex H2 (upd H5 q (.tup [.int st, .ref l3])) := e3.trans (e4.trans (e5.trans e6))
      have nl3 : l3 ≠ p := fun z => (P2.ex (e3.trans e4)).here (z ▸ hl3)
      have hlb : 1 ≤ (but ts n).length := by
        have h1 := (but_perm ht).length_eq
        rw [List.length_cons] at h1
        omega
      exact k q l3 _ st (but ts n) _ (dr.row.sub (but_sub ts n) hlb) dr.st0.1 (by have := dr.st0.2; omega) (KH.trans (Kp.ex e26 P2)) (P2.ex e26) nl3 upd_same (e6 _ _ hL3) (((hw2.take n).app (hw2.drop (n + 1))).ex e26)
    rintro σ' H' ⟨rfl, e2⟩
    rw [e2]
    clear e2 H'
    -- one more
    refine ⟨fun σ' H' => σ' = [some (V.ref p), some (V.int st), some (V.ref a), some (V.int kd), some (V.int (n : Int)), some (V.ref b), none] ∧ H' = H2, ?_, ?_⟩
    · refine ⟨_, rfl, rfl, _, rfl, ite2 (fun _ => ?_) (fun _ => ⟨rfl, rfl⟩)⟩
      refine ⟨_, rfl, _, rfl, _, rfl, .inr (.inl ⟨b, _, 1, _, rfl, rfl, st_of hb, (by rfl), ?_⟩)⟩
      refine ⟨_, rfl, .inr (.inl ⟨b, _, 2, _, rfl, rfl, st_of hb, (by rfl), ?_⟩)⟩
      refine ⟨(by show 3 ≤ sizeLine; decide), fun c hc => ?_⟩
      have e3 : Ex H2 (upd H2 c (.tup [.int 98, .str t.2.1, .int t.2.2])) := Ex.new hc
      have hst : StepAt (upd H2 c (.tup [.int 98, .str t.2.1, .int t.2.2])) (.ref c) (98, t.2.1, t.2.2) := ⟨c, rfl, upd_same⟩
      generalize upd H2 c (.tup [.int 98, .str t.2.1, .int t.2.2]) = H3 at e3 hst
      refine ⟨(by show 1 ≤ sizeLine; decide), fun l2 hl2 => ?_⟩
      have e4 : Ex H3 (upd H3 l2 (.lst [.ref c])) := Ex.new hl2
      refine ⟨a, l2, _, _, rfl, rfl, e4 _ _ (e3 _ _ ha2), upd_same, sz_of (by simp; omega), fun l3 hl3 => ?_⟩
      generalize upd H3 l2 (.lst [.ref c]) = H4 at e4 hl3
      have e5 : Ex H4 (upd H4 l3 (.lst (xs ++ [.ref c]))) := Ex.new hl3
      have hL3 : upd H4 l3 (.lst (xs ++ [.ref c])) l3 = some (.lst (xs ++ [.ref c])) := upd_same
      generalize upd H4 l3 (.lst (xs ++ [.ref c])) = H5 at e5 hL3
      refine ⟨(by show 2 ≤ sizeLine; decide), fun q hq => ?_⟩
      have e6 : Ex H5 (upd H5 q (.tup [.int st, .ref l3])) := Ex.new hq
      have e26 : Ex H2 (upd H5 q (.tup [.int st, .ref l3])) := e3.trans (e4.trans (e5.trans e6))
      have nl3 : l3 ≠ p := fun z => (P2.ex (e3.trans e4)).here (z ▸ hl3)
      have g98 : GoodStep (98, t.2.1, t.2.2) := ⟨(by show (0 : Int) ≤ 98; decide), (by show (98 : Int) ≤ 99; decide), gt.2.2.1, gt.2.2.2.1, gt.2.2.2.2⟩
      have hc0 : cnt (98, t.2.1, t.2.2) ts = 0 := by
        unfold cnt
        rw [List.length_eq_zero_iff, List.filter_eq_nil_iff]
        intro x hx
        have := low x hx
        simp
        omega
      have hr : GoodRow (ts ++ [(98, t.2.1, t.2.2)]) := (GoodRow.put (by omega) dr.row.good dr.row.nd dr.row.few g98 (fun hm => by have h1 : (98 : Int) ≤ 96 := low _ hm; omega) (by omega)).perm (List.perm_append_singleton _ _)
      exact k q l3 _ st _ _ hr dr.st0.1 (by have := dr.st0.2; omega) (KH.trans (Kp.ex e26 P2)) (P2.ex e26) nl3 upd_same (e6 _ _ hL3) ((Rw.snoc (hst.tu (Tu.ex (e4.trans (e5.trans e6)))) (hw2.ex e26)))
    rintro σ' H' ⟨rfl, e2⟩
    rw [e2]
    clear e2 H'
    -- another one
    refine ⟨fun σ' H' => ∃ v u, σ' = [some (V.ref p), some (V.int st), some (V.ref a), some (V.int kd), some (V.int (n : Int)), some (V.ref b), some v] ∧ StepAt H' v u ∧ GoodStep u ∧ (u.1 = t.1 ∨ u.1 = 97) ∧ Kp p H2 H' ∧ Pool H' p, ?_, ?_⟩
    · refine ⟨_, rfl, .inr (.inl ⟨b, _, 0, _, rfl, rfl, st_of hb, (by rfl), ?_⟩)⟩
      refine ⟨_, rfl, .inr (.inl ⟨b, _, 2, _, rfl, rfl, st_of hb, (by rfl), ?_⟩)⟩
      refine ⟨(by show 3 ≤ sizeLine; decide), fun c1 hc1 => ?_⟩
      have e3 : Ex H2 (upd H2 c1 (.tup [.int t.1, .str "zz", .int t.2.2])) := Ex.new hc1
      have s1 : StepAt (upd H2 c1 (.tup [.int t.1, .str "zz", .int t.2.2])) (.ref c1) (t.1, "zz", t.2.2) := ⟨c1, rfl, upd_same⟩
      generalize upd H2 c1 (.tup [.int t.1, .str "zz", .int t.2.2]) = H3 at e3 s1
      have hb3 := e3 _ _ hb
      refine ⟨_, rfl, .inr (.inl ⟨b, _, 1, _, rfl, rfl, st_of hb3, (by rfl), ?_⟩)⟩
      refine ⟨_, rfl, .inr (.inl ⟨b, _, 2, _, rfl, rfl, st_of hb3, (by rfl), ?_⟩)⟩
      refine ⟨(by show 3 ≤ sizeLine; decide), fun c2 hc2 => ?_⟩
      have e4 : Ex H3 (upd H3 c2 (.tup [.int 97, .str t.2.1, .int t.2.2])) := Ex.new hc2
      have s2 : StepAt (upd H3 c2 (.tup [.int 97, .str t.2.1, .int t.2.2])) (.ref c2) (97, t.2.1, t.2.2) := ⟨c2, rfl, upd_same⟩
      generalize upd H3 c2 (.tup [.int 97, .str t.2.1, .int t.2.2]) = H4 at e4 s2
      have hb4 := e4 _ _ hb3
      refine ⟨_, rfl, .inr (.inl ⟨b, _, 0, _, rfl, rfl, st_of hb4, (by rfl), ?_⟩)⟩
      refine ⟨_, rfl, .inr (.inl ⟨b, _, 1, _, rfl, rfl, st_of hb4, (by rfl), ?_⟩)⟩
      refine ⟨(by show 3 ≤ sizeLine; decide), fun c3 hc3 => ?_⟩
      have e5 : Ex H4 (upd H4 c3 (.tup [.int t.1, .str t.2.1, .int 96])) := Ex.new hc3
      have s3 : StepAt (upd H4 c3 (.tup [.int t.1, .str t.2.1, .int 96])) (.ref c3) (t.1, t.2.1, 96) := ⟨c3, rfl, upd_same⟩
      generalize upd H4 c3 (.tup [.int t.1, .str t.2.1, .int 96]) = H5 at e5 s3
      refine ⟨_, rfl, (by show 4 ≤ sizeLine; decide), fun l hl => ?_⟩
      have e6 : Ex H5 (upd H5 l (.lst [.ref c1, .ref c2, .ref c3, .ref b])) := Ex.new hl
      have hl6 : upd H5 l (.lst [.ref c1, .ref c2, .ref c3, .ref b]) l = some (.lst [.ref c1, .ref c2, .ref c3, .ref b]) := upd_same
      have nlp : l ≠ p := fun z => (P2.ex (e3.trans (e4.trans e5))).here (z ▸ hl)
      generalize upd H5 l (.lst [.ref c1, .ref c2, .ref c3, .ref b]) = H6 at e6 hl6
      have e26 : Ex H2 H6 := e3.trans (e4.trans (e5.trans e6))
      refine ⟨_, rfl, p, 4, rfl, P2.ex e26, by decide, by decide, fun d H7 d0 d1 K7 P7 => ?_⟩
      have T7 := K7.tu (P2.ex e26)
      have S : ∃ v u, ([.ref c1, .ref c2, .ref c3, .ref b] : List V)[d.toNat]? = some v ∧ StepAt H7 v u ∧ GoodStep u ∧ (u.1 = t.1 ∨ u.1 = 97) := by
        have hd : d = 0 ∨ d = 1 ∨ d = 2 ∨ d = 3 := by omega
        rcases hd with rfl | rfl | rfl | rfl
        · exact ⟨_, _, rfl, (s1.tu (Tu.ex (e4.trans (e5.trans e6)))).tu T7, ⟨gt.1, gt.2.1, zz_nm, gt.2.2.2.1, gt.2.2.2.2⟩, .inl rfl⟩
        · exact ⟨_, _, rfl, (s2.tu (Tu.ex (e5.trans e6))).tu T7, ⟨(by show (0 : Int) ≤ 97; decide), (by show (97 : Int) ≤ 99; decide), gt.2.2.1, gt.2.2.2.1, gt.2.2.2.2⟩, .inr rfl⟩
        · exact ⟨_, _, rfl, (s3.tu (Tu.ex e6)).tu T7, ⟨gt.1, gt.2.1, gt.2.2.1, (by show (0 : Int) ≤ 96; decide), (by show (96 : Int) ≤ 99; decide)⟩, .inl rfl⟩
        · exact ⟨_, t, rfl, ⟨b, rfl, T7 _ _ (e26 _ _ hb)⟩, gt, .inl rfl⟩
      obtain ⟨v, u, hv, su, gu, xu⟩ := S
      exact .inl ⟨l, _, d, v, rfl, rfl, sq_of (K7.k l _ nlp hl6), at_of (j := d.toNat) (by omega) hv, v, u, rfl, su, gu, xu, (Kp.ex e26 P2).trans K7, P7⟩
    rintro σ' H3 ⟨v, u, rfl, su, gu, xu, K3, P3⟩
    have ha3 := K3.k a _ nap ha2
    have hw3 := hw2.tu (K3.tu P2)
    have okr : ∀ z ∈ but ts n, OkS z := fun z hz => (dr.row.good z ((but_sub ts n).subset hz)).ok
    refine ⟨fun σ' H' => σ' = [some (V.ref p), some (V.int st), some (V.ref a), some (V.int kd), some (V.int (n : Int)), some (V.ref b), some v] ∧ Ex H3 H' ∧ u ∉ but ts n, ?_, ?_⟩
    · refine ⟨_, rfl, _, rfl, _, rfl, _, rfl, sl_take ha3 fun l1 hl1 => ?_⟩
      have e3 : Ex H3 (upd H3 l1 (.lst (xs.take n))) := Ex.new hl1
      have hL1 : upd H3 l1 (.lst (xs.take n)) l1 = some (.lst (xs.take n)) := upd_same
      generalize upd H3 l1 (.lst (xs.take n)) = H4 at e3 hL1
      refine ⟨_, rfl, _, rfl, _, _, rfl, rfl, _, rfl, sl_drop1 (e3 _ _ ha3) fun l2 hl2 => ?_⟩
      have e4 : Ex H4 (upd H4 l2 (.lst (xs.drop (n + 1)))) := Ex.new hl2
      have hL2 : upd H4 l2 (.lst (xs.drop (n + 1))) l2 = some (.lst (xs.drop (n + 1))) := upd_same
      generalize upd H4 l2 (.lst (xs.drop (n + 1))) = H5 at e4 hL2
      refine ⟨l1, l2, _, _, rfl, rfl, e4 _ _ hL1, hL2, sz_of (by rw [List.length_take, List.length_drop]; omega), fun l3 hl3 => ?_⟩
      have e5 : Ex H5 (upd H5 l3 (.lst (xs.take n ++ xs.drop (n + 1)))) := Ex.new hl3
      have hL3 : upd H5 l3 (.lst (xs.take n ++ xs.drop (n + 1))) l3 = some (.lst (xs.take n ++ xs.drop (n + 1))) := upd_same
      generalize upd H5 l3 (.lst (xs.take n ++ xs.drop (n + 1))) = H6 at e5 hL3
      have e36 : Ex H3 H6 := e3.trans (e4.trans e5)
      have hwb : Rw H6 (xs.take n ++ xs.drop (n + 1)) (but ts n) := ((hw3.take n).app (hw3.drop (n + 1))).ex e36
      refine ⟨encS u, (but ts n).map encS, (su.tu (Tu.ex e36)).dp, .lst (sq_of hL3) hwb.dps, encS_shaped gu.ok, encSs_shaped okr, ?_⟩
      rw [encSs_any]
      refine ⟨_, rfl, ite2 (fun _ => ?_) (fun hno => ⟨rfl, e36, fun hm => hno (decide_eq_true hm)⟩)⟩
      refine ⟨_, rfl, _, rfl, (by show 2 ≤ sizeLine; decide), fun q hq => ?_⟩
      have e7 : Ex H6 (upd H6 q (.tup [.int st, .ref a])) := Ex.new hq
      have e37 := e36.trans e7
      exact k q a xs st ts _ dr.row dr.st0.1 (by have := dr.st0.2; omega) (KH.trans (K3.trans (Kp.ex e37 P3))) (P3.ex e37) nap upd_same (e37 _ _ ha3) (hw3.ex e37)
    · rintro σ' H4 ⟨rfl, e34, hno⟩
      refine ⟨_, rfl, _, rfl, _, rfl, _, rfl, sl_take (e34 _ _ ha3) fun l1 hl1 => ?_⟩
      have e3 : Ex H4 (upd H4 l1 (.lst (xs.take n))) := Ex.new hl1
      have hL1 : upd H4 l1 (.lst (xs.take n)) l1 = some (.lst (xs.take n)) := upd_same
      generalize upd H4 l1 (.lst (xs.take n)) = H5 at e3 hL1
      refine ⟨_, rfl, (by show 1 ≤ sizeLine; decide), fun l2 hl2 => ?_⟩
      have e4 : Ex H5 (upd H5 l2 (.lst [v])) := Ex.new hl2
      have hL2 : upd H5 l2 (.lst [v]) l2 = some (.lst [v]) := upd_same
      generalize upd H5 l2 (.lst [v]) = H6 at e4 hL2
      refine ⟨l1, l2, _, _, rfl, rfl, e4 _ _ hL1, hL2, sz_of (by rw [List.length_take, List.length_singleton]; omega), fun l3 hl3 => ?_⟩
      have e5 : Ex H6 (upd H6 l3 (.lst (xs.take n ++ [v]))) := Ex.new hl3
      have hL3 : upd H6 l3 (.lst (xs.take n ++ [v])) l3 = some (.lst (xs.take n ++ [v])) := upd_same
      generalize upd H6 l3 (.lst (xs.take n ++ [v])) = H7 at e5 hL3
      have e37 : Ex H3 H7 := e34.trans (e3.trans (e4.trans e5))
      refine ⟨_, rfl, _, rfl, _, _, rfl, rfl, _, rfl, sl_drop1 (e37 _ _ ha3) fun l4 hl4 => ?_⟩
      have e6 : Ex H7 (upd H7 l4 (.lst (xs.drop (n + 1)))) := Ex.new hl4
      have hL4 : upd H7 l4 (.lst (xs.drop (n + 1))) l4 = some (.lst (xs.drop (n + 1))) := upd_same
      generalize upd H7 l4 (.lst (xs.drop (n + 1))) = H8 at e6 hL4
      refine ⟨l3, l4, _, _, rfl, rfl, e6 _ _ hL3, hL4, sz_of (by rw [List.length_append, List.length_take, List.length_drop, List.length_singleton]; omega), fun l5 hl5 => ?_⟩
      have e7 : Ex H8 (upd H8 l5 (.lst (xs.take n ++ [v] ++ xs.drop (n + 1)))) := Ex.new hl5
      have hL5 : upd H8 l5 (.lst (xs.take n ++ [v] ++ xs.drop (n + 1))) l5 = some (.lst (xs.take n ++ [v] ++ xs.drop (n + 1))) := upd_same
      generalize upd H8 l5 (.lst (xs.take n ++ [v] ++ xs.drop (n + 1))) = H9 at e7 hL5
      refine ⟨(by show 2 ≤ sizeLine; decide), fun q hq => ?_⟩
      have e8 : Ex H9 (upd H9 q (.tup [.int st, .ref l5])) := Ex.new hq
      have e39 : Ex H3 (upd H9 q (.tup [.int st, .ref l5])) := e37.trans (e6.trans (e7.trans e8))
      have nl5 : l5 ≠ p := fun z => (P3.ex (e37.trans e6)).here (z ▸ hl5)
      have hwr : Rw H3 (xs.take n ++ [v] ++ xs.drop (n + 1)) (ts.take n ++ [u] ++ ts.drop (n + 1)) := ((hw3.take n).snoc su).app (hw3.drop (n + 1))
      exact k q l5 _ st _ _ (dr.row.laid hsh low ht gu xu hno) dr.st0.1 (by have := dr.st0.2; omega) (KH.trans (K3.trans (Kp.ex e39 P3))) (P3.ex e39) nl5 upd_same (e8 _ _ hL5) (hwr.ex e39)
theorem swap_perm {α : Type} {l : List α} {i j : Nat} {a b : α} (hi : l[i]? = some a) (hj : l[j]? = some b) : ((l.set i b).set j a).Perm l := by
  obtain ⟨h1, e1⟩ := List.getElem?_eq_some_iff.mp hi
  obtain ⟨h2, e2⟩ := List.getElem?_eq_some_iff.mp hj
  have h := Array.swap_perm (xs := l.toArray) (i := i) (j := j) (by simpa using h1) (by simpa using h2)
  have h3 := Array.perm_iff_toList_perm.mp h
  have e : (l.toArray.swap i j (by simpa using h1) (by simpa using h2)).toList = (l.set i b).set j a := by
    simp [e1, e2]
  rw [e] at h3
  simpa using h3
theorem Rw.set {H : Hp} {x : V} {t : Stp} (hx : StepAt H x t) : ∀ {xs : List V} {ts : List Stp} (i : Nat), Rw H xs ts → Rw H (xs.set i x) (ts.set i t)
  | _, _, _, .nil => .nil
  | _, _, 0, .cons _ r => .cons hx r
  | _, _, i + 1, .cons g r => .cons g (Rw.set hx i r)
theorem Rw.rev {H : Hp} : ∀ {xs : List V} {ts : List Stp}, Rw H xs ts → Rw H xs.reverse ts.reverse
  | _, _, .nil => .nil
  | _, _, .cons g r => by
    rw [List.reverse_cons, List.reverse_cons]
    exact (Rw.rev r).snoc g
section
variable {C : Addr} {H H' : Hp} {p : Addr} {st : Int} {ts : List Stp}
theorem HandAt.ex (h : HandAt C H p st ts) (e : Ex H H') : HandAt C H' p st ts := by
  obtain ⟨dx, tp, wl, ol, xs, ys, h1, h2, h3, ⟨ks, h4, h5, h6⟩, h7, h8⟩ := h
  exact ⟨dx, tp, wl, ol, xs, ys, e _ _ h1, e _ _ h2, h3.ex e, ⟨ks, h4, h5, e _ _ h6⟩, e _ _ h7, h8.ex e⟩
theorem Rw.refs : ∀ {xs : List V} {ts : List Stp} {i : Int}, Rw H xs ts → V.int i ∉ xs
  | _, _, _, .nil, m => nomatch m
  | _, _, i, .cons g r, m => by
    rcases List.mem_cons.mp m with z | m
    · obtain ⟨a, e, _⟩ := g
      rw [← z] at e
      cases e
    · exact Rw.refs r m
theorem HandAt.kp {q : Addr} (h : HandAt C H p st ts) (hP : Pool H q) (k : Kp q H H') : HandAt C H' p st ts := by
  have T := k.tu hP
  obtain ⟨dx, tp, wl, ol, xs, ys, h1, h2, h3, ⟨ks, h4, h5, h6⟩, h7, h8⟩ := h
  obtain ⟨g, s, n, kk, gs, ss, q1, _⟩ := hP
  refine ⟨dx, tp, wl, ol, xs, ys, k.k _ _ (fun z => by rw [z, q1] at h1; cases h1) h1, T _ _ h2, h3.tu T, ⟨ks, h4, h5, k.k _ _ (fun z => ?_) h6⟩, k.k _ _ (fun z => ?_) h7, h8.tu T⟩
  · rw [z, q1] at h6
    have e : ([.ref g, .ref s, .int n, .int kk] : List V) = (sortS ks).map V.str := by injection h6 with h6; injection h6
    have m : V.ref g ∈ (sortS ks).map V.str := by rw [← e]; exact List.mem_cons_self
    obtain ⟨_, _, z2⟩ := List.mem_map.mp m
    cases z2
  · rw [z, q1] at h7
    have e : ([.ref g, .ref s, .int n, .int kk] : List V) = ys := by injection h7 with h7; injection h7
    exact h8.refs (i := n) (by rw [← e]; simp)
theorem init_go {a x dx : Addr} {xs : List V} {Q : VK} {E : XK} (hx : H x = none) (hd : H dx = none) (hne : dx ≠ x) (ha : SqX H a xs) (hw : Rw H xs ts) (h0 : 0 ≤ st) (h9 : st ≤ 99) (g : GoodRow ts) (k : ∀ H2, Ex H H2 → HandAt C H2 x st ts → Q .non H2) :
    spInit C [.ref x, .int st, .ref a] (upd (upd H dx (.own x)) x (.ins C dx [])) Q E :=
  ⟨H, x, dx, st, a, xs, ts, rfl, (Ex.new hd).mut hx, hx, upd_same, ha, hw, h0, h9, g, k⟩
theorem HandAt.ins (h : HandAt C H p st ts) : ∃ dx fs, H p = some (.ins C dx fs) := by
  obtain ⟨dx, tp, wl, ol, xs, ys, h1, _⟩ := h
  exact ⟨_, _, h1⟩
theorem eq_go {K : PySem.W.Frag} {q : Addr} {st' : Int} {ts' : List Stp} {Q : VK} (a : HandAt C H p st ts) (b : HandAt C H q st' ts') (g : GoodRow ts) (g' : GoodRow ts') (k : Q (.bl (decide (st = st') && decide (sortT ts = sortT ts'))) H) : rOwnEq K C (spEq C) En (.ref p) (.ref q) H Q := by
  obtain ⟨dx, fs, h1⟩ := a.ins
  obtain ⟨dy, gs, h2⟩ := b.ins
  exact ⟨p, dx, fs, q, C, dy, gs, rfl, rfl, h1, h2, by unfold PySem.W.notFirst; simp, p, q, st, ts, st', ts', rfl, a, b, g, g', k⟩
theorem ne_go {K : PySem.W.Frag} {q : Addr} {st' : Int} {ts' : List Stp} {Q : VK} (a : HandAt C H p st ts) (b : HandAt C H q st' ts') (g : GoodRow ts) (g' : GoodRow ts') (k : Q (.bl (!(decide (st = st') && decide (sortT ts = sortT ts')))) H) : rOwnNe K C (spEq C) En (.ref p) (.ref q) H Q := by
  obtain ⟨dx, fs, h1⟩ := a.ins
  obtain ⟨dy, gs, h2⟩ := b.ins
  exact ⟨p, dx, fs, q, C, dy, gs, rfl, rfl, h1, h2, by unfold PySem.W.notFirst; simp, p, q, st, ts, st', ts', rfl, a, b, g, g', _, rfl, k⟩
theorem sortl_go {K : PySem.W.Frag} {a : Addr} {xs : List V} {Q : VK} (hx : H a = some (.lst xs)) (hw : Rw H xs ts) (k : ∀ ys q H', Ex H H' → H' q = some (.lst ys) → Rw H' ys (sortT ts) → Q (.ref q) H') : rSortD K encS [.ref a] H Q :=
  ⟨a, xs, ts, StepAt H, rfl, sq_of hx, Paired.mapP hw fun v b h => ⟨h, h.dp⟩, encS_alike, encS_sortable ts, fun b => Nat.le_trans (encS_depth b) (by decide), fun ys q hy hn =>
    k ys q _ (Ex.new hn) upd_same (Rw.ex (Ex.new hn) (show Rw H ys (sortT ts) from hy))⟩
end
/-! texts as data -/
theorem str_dps {K : PySem.W.Frag} {H : Hp} : ∀ ks : List Str, DpAll K H (ks.map V.str) (ks.map PyData.str)
  | [] => .nil
  | k :: ks => .cons (.str k) (str_dps ks)
theorem str_lay : ∀ ks : List Str, (∀ k ∈ ks, PyData.strOk k = true) → PyData.canLayAll0 (ks.map PyData.str) = true
  | [], _ => by simp [PyData.canLayAll0]
  | k :: ks, h => by
    have h1 := h k List.mem_cons_self
    have h2 := str_lay ks fun y hy => h y (List.mem_cons_of_mem _ hy)
    simp only [List.map_cons, PyData.canLayAll0, PyData.canLay0]
    rw [h1, h2]
    rfl
theorem str_depth : ∀ ks : List Str, PyData.depthAll (ks.map PyData.str) ≤ 1
  | [] => by simp [PyData.depthAll]
  | k :: ks => by
    have h1 := str_depth ks
    simp only [List.map_cons, PyData.depthAll, PyData.depth]
    omega
theorem str_shaped {ks : List Str} (h : ∀ k ∈ ks, PyData.strOk k = true) : SeqAt.shaped (.list (ks.map PyData.str)) = true := by
  have h1 := str_depth ks
  have h2 : PyData.depth (.list (ks.map PyData.str)) ≤ 64 := by
    simp only [PyData.depth]
    omega
  show (PyData.canLay0 (.list (ks.map PyData.str)) && decide (PyData.depth (.list (ks.map PyData.str)) ≤ 64)) = true
  rw [Bool.and_eq_true]
  exact ⟨by simp only [PyData.canLay0]; exact str_lay ks h, decide_eq_true h2⟩
theorem str_eqv : ∀ ks : List Str, PyData.eqvAll (ks.map PyData.str) (ks.map PyData.str) = true
  | [] => by simp [PyData.eqvAll]
  | k :: ks => by
    simp only [List.map_cons, PyData.eqvAll, PyData.eqv]
    rw [str_eqv ks]
    simp
theorem strs_eqv (ks : List Str) : PyData.eqv (.list (ks.map PyData.str)) (.list (ks.map PyData.str)) = true := by
  simp only [PyData.eqv]
  exact str_eqv ks
end
end WK

set_option Elab.async false
set_option linter.all false
set_option maxRecDepth 100000
set_option maxHeartbeats 8000000
namespace WK
open PySem PySem.Spec PyProof.Rows L2 WW Evl
section
variable {P : Program} {w : World} {K : PySem.W.Frag} {mg : Str → Option Value} {base : Heap} {f : Addr} {fd : FuncData}
/-- the class's makers and askers, at the levels of their promises -/
structure Ops (P : Program) (w : World) (K : PySem.W.Frag) (mg : Str → Option Value) (base : Heap) (C : Addr) : Prop where
  mkh : ∃ f fd, Mk K C f ∧ FnOk P w K mg base CXn 5 f fd ["self", "start", "steps"] (spInit C) ∧ Binds K fd ["self", "start", "steps"] []
  eqh : ∃ f fd, PySem.W.findIn K (.ref C) "__eq__" = some (some (.ref f)) ∧ PySem.W.isFn K (.ref f) = true ∧ FnOk P w K mg base CXn 1 f fd ["self", "other"] (spEq C) ∧ Binds K fd ["self", "other"] []
  ne : PySem.W.findIn K (.ref C) "__ne__" = some (some (.builtin "object.__ne__"))
  mro : PySem.W.mroIn K C (.type "object") = some true
  words : ∃ p g fd, PropOf K C "words" p g ∧ FnOk P w K mg base CXn 1 g fd ["self"] (spWords C) ∧ Binds K fd ["self"] []
  steps : ∃ p g fd, PropOf K C "steps" p g ∧ FnOk P w K mg base CXn 1 g fd ["self"] (spSteps C) ∧ Binds K fd ["self"] []
  start : ∃ p g fd, PropOf K C "start" p g ∧ FnOk P w K mg base CXn 1 g fd ["self"] (spStart C) ∧ Binds K fd ["self"] []
abbrev s_law : Stmt := top 27
theorem sc_law : FnScope ["_law_script", "_law_pool_here", "_law_words", "_law_start", "_law_row", "_law_steps", "_law_turn", "_law_other", "_law_one", "_law_two", "_law_held", "_law_hand_here", "_law_k", "_law_begin", "_law_changed_here", "_law_second", "_law_due"] ["_law_script"] (defScope s_law) := ⟨rfl, rfl, rfl, by decide +kernel, rfl, by decide +kernel, by decide +kernel⟩
def spLaw (K : PySem.W.Frag) : Sp := fun vs H Q _ => ∃ (a : Addr) (ns : List Int), vs = [.ref a] ∧ SqL K H a (ns.map V.int) ∧ ∀ H', Q (.bl true) H'
theorem ok_law {C_Hand : Addr} (G : Gz mg) (D : Df K mg "law" s_law f fd ["_law_script"]) (T : Hd K mg C_Hand) (O : Ops P w K mg base C_Hand) (c__law_pool : Callee P w K mg base CXn 1 "_law_pool" 1 (spPool K)) (c__law_draw : Callee P w K mg base CXn 1 "_law_draw" 2 spDraw) (c__law_names : Callee P w K mg base CXn 3 "_law_names" 2 spNames)
    (c__law_hand : Callee P w K mg base CXn 3 "_law_hand" 3 spHand) (c__law_changed : Callee P w K mg base CXn 3 "_law_changed" 3 spChanged) : FnOk P w K mg base CXn 7 f fd ["_law_script"] (spLaw K) := by
  have g_Hand := T.at_
  have cls_Hand := T.cl
  obtain ⟨f0, fd0, M_Hand, F_Hand, b_Hand⟩ := O.mkh
  obtain ⟨f1, fd1, e1, i1, F_eq, b_eq⟩ := O.eqh
  obtain ⟨p2, f2, fd2, p_words, F_words, b_words⟩ := O.words
  obtain ⟨p3, f3, fd3, p_steps, F_steps, b_steps⟩ := O.steps
  obtain ⟨p4, f4, fd4, p_start, F_start, b_start⟩ := O.start
  refine D.fn.ok sc_law (fun vs H Q E h => ?_) (fun cdv A outer s H vs Q E hr h => ⟨_, PSs.nox (pss_cons (ps_set (i := 1) sc_law.nd rfl (Or.inl rfl) (pe_cl (E := En) c__law_pool (hr.mono (by decide)) rfl passN (pa_cons (pv 0) pa_nil))) (pss_cons (ps_set (i := 2) sc_law.nd rfl (Or.inl rfl) (pe_cl (E := En) c__law_names (hr.mono (by decide)) rfl passN (pa_cons (pv 1) (pa_cons (pe_op op_add pe_int (pe_cl (E := En) c__law_draw (hr.mono (by decide)) rfl passN (pa_cons (pv 1) (pa_cons pe_int pa_nil)))) pa_nil)))) (pss_cons (ps_asg (pe_cl (E := En) c__law_hand (hr.mono (by decide)) rfl passN (pa_cons (pv 1) (pa_cons (pv 2) (pa_cons (pe_op op_add pe_int (pe_cl (E := En) c__law_draw (hr.mono (by decide)) rfl passN (pa_cons (pv 1) (pa_cons pe_int pa_nil)))) pa_nil)))) (pg_tup rfl (pgs_cons (pg_name (i := 3) sc_law.nd rfl (Or.inl rfl)) (pgs_cons (pg_name (i := 4) sc_law.nd rfl (Or.inl rfl)) pgs_nil)))) (pss_cons (ps_set (i := 5) sc_law.nd rfl (Or.inl rfl) (pe_callTy (listOfK (K := K) rfl) rfl G.g_list (by rfl) (pa_cons (pv 4) pa_nil))) (pss_cons (ps_set (i := 6) sc_law.nd rfl (Or.inl rfl) (pe_cl (E := En) c__law_draw (hr.mono (by decide)) rfl passN (pa_cons (pv 1) (pa_cons (pe_callB (lenK (K := K) rfl) rfl G.g_len PySem.boot_len (pa_cons (pv 5) pa_nil)) pa_nil)))) (pss_cons (ps_set (i := 7) sc_law.nd rfl (Or.inl rfl) (pe_op op_cat (pe_slice sl_list (pv 5) (po_some (pv 6)) po_none) (pe_slice sl_list (pv 5) po_none (po_some (pv 6))))) (pss_cons (ps_set (i := 8) sc_law.nd rfl (Or.inl rfl) (pe_cl (E := En) c__law_draw (hr.mono (by decide)) rfl passN (pa_cons (pv 1) (pa_cons (pe_callB (lenK (K := K) rfl) rfl G.g_len PySem.boot_len (pa_cons (pv 7) pa_nil)) pa_nil)))) (pss_cons (ps_set (i := 9) sc_law.nd rfl (Or.inl rfl) (pe_cl (E := En) c__law_draw (hr.mono (by decide)) rfl passN (pa_cons (pv 1) (pa_cons (pe_callB (lenK (K := K) rfl) rfl G.g_len PySem.boot_len (pa_cons (pv 7) pa_nil)) pa_nil)))) (pss_cons (ps_set (i := 10) sc_law.nd rfl (Or.inl rfl) (pe_ix (ixK (K := K) rfl) (pv 7) (pv 8) (fun _ _ => rfl))) (pss_cons (ps_asg (pe_ix (ixK (K := K) rfl) (pv 7) (pv 9) (fun _ _ => rfl)) (pg_sub (pv 7) (pv 8) set_list)) (pss_cons (ps_asg (pv 10) (pg_sub (pv 7) (pv 9) set_list)) (pss_cons (ps_set (i := 11) sc_law.nd rfl (Or.inl rfl) (pe_make (E := En) M_Hand F_Hand (hr.mono (by decide)) rfl g_Hand b_Hand .nil passN (pa_cons (pv 3) (pa_cons (pv 5) pa_nil)))) (pss_cons (ps_if (PW.pt (pw_or (pt_not (pt_cmpR (op_ownEq (E := En) e1 i1 F_eq (hr.mono (by decide)) b_eq passN) (pv 11) (pe_make (E := En) M_Hand F_Hand (hr.mono (by decide)) rfl g_Hand b_Hand .nil passN (pa_cons (pv 3) (pa_cons (pe_callTy (tupOfK (K := K) rfl) rfl G.g_tuple (by rfl) (pa_cons (pv 7) pa_nil)) pa_nil))) (nomark _))) (pw_or1 (pt_not (pt_cmpR (op_ownEq (E := En) e1 i1 F_eq (hr.mono (by decide)) b_eq passN) (pe_make (E := En) M_Hand F_Hand (hr.mono (by decide)) rfl g_Hand b_Hand .nil passN (pa_cons (pv 3) (pa_cons (pe_revL (pv 7)) pa_nil))) (pv 11) (nomark _)))))) (pss_one (ps_ret pe_bl)) pss_nil) (pss_cons (ps_if (PW.pt (pw_or (pt_cmpR (op_neD hr.units) (pe_prop (E := En) (pv 11) cls_Hand p_words F_words (hr.mono (by decide)) b_words .nil passN rfl) (pe_prop (E := En) (pe_make (E := En) M_Hand F_Hand (hr.mono (by decide)) rfl g_Hand b_Hand .nil passN (pa_cons (pv 3) (pa_cons (pv 7) pa_nil))) cls_Hand p_words F_words (hr.mono (by decide)) b_words .nil passN rfl) (nomark _)) (pw_or1 (pt_cmpR (op_neD hr.units) (pe_prop (E := En) (pe_make (E := En) M_Hand F_Hand (hr.mono (by decide)) rfl g_Hand b_Hand .nil passN (pa_cons (pv 3) (pa_cons (pv 7) pa_nil))) cls_Hand p_steps F_steps (hr.mono (by decide)) b_steps .nil passN rfl) (pe_callTy (tupOfK (K := K) rfl) rfl G.g_tuple (by rfl) (pa_cons (pv 7) pa_nil)) (nomark _))))) (pss_one (ps_ret pe_bl)) pss_nil) (pss_cons (ps_for PassesOwn.never rfl (pi_range1 rfl G.g_range (pa_cons pe_int pa_nil)) (pg_name (i := 12) sc_law.nd rfl (Or.inl rfl)) (pss_cons (ps_asg (pe_cl (E := En) c__law_changed (hr.mono (by decide)) rfl passN (pa_cons (pv 1) (pa_cons (pv 3) (pa_cons (pv 7) pa_nil)))) (pg_tup rfl (pgs_cons (pg_name (i := 13) sc_law.nd rfl (Or.inl rfl)) (pgs_cons (pg_name (i := 14) sc_law.nd rfl (Or.inl rfl)) pgs_nil)))) (pss_cons (ps_set (i := 15) sc_law.nd rfl (Or.inl rfl) (pe_make (E := En) M_Hand F_Hand (hr.mono (by decide)) rfl g_Hand b_Hand .nil passN (pa_cons (pv 13) (pa_cons (pv 14) pa_nil)))) (pss_cut (ps_set (i := 16) sc_law.nd rfl (Or.inl rfl) (L2.pe_and (pe_cmpR op_eq (pv 13) (pv 3) (nomark _)) (pe_one (pe_cmpR (op_eqD hr.units) (pe_callB (cr_sortD encS hr.units) rfl G.g_sorted (by rfl) (pa_cons (pv 14) pa_nil)) (pe_callB (cr_sortD encS hr.units) rfl G.g_sorted (by rfl) (pa_cons (pv 5) pa_nil)) (nomark _))))) (pss_one (ps_if (PW.pt (pw_or (pt_cmpR op_ne (pe_cmpR (op_ownEq (E := En) e1 i1 F_eq (hr.mono (by decide)) b_eq passN) (pv 11) (pv 15) (nomark _)) (pv 16) (nomark _)) (pw_or (pt_cmpR op_ne (pe_cmpR (op_ownEq (E := En) e1 i1 F_eq (hr.mono (by decide)) b_eq passN) (pv 15) (pv 11) (nomark _)) (pv 16) (nomark _)) (pw_or1 (pt_cmpR op_eq (pe_cmpR (op_ownNe (E := En) e1 O.ne O.mro i1 F_eq (hr.mono (by decide)) b_eq passN) (pv 11) (pv 15) (nomark _)) (pv 16) (nomark _)))))) (pss_one (ps_ret pe_bl)) pss_nil)))))) (pss_one (ps_ret (L2.pe_and (pe_cmpR (op_ownEq (E := En) e1 i1 F_eq (hr.mono (by decide)) b_eq passN) (pv 11) (pv 11) (nomark _)) (pe_one (pe_cmpR op_eq (pe_prop (E := En) (pv 11) cls_Hand p_start F_start (hr.mono (by decide)) b_start .nil passN rfl) (pv 3) (nomark _))))))))))))))))))))), ?_⟩)
  · obtain ⟨_, _, rfl, _⟩ := h
    rfl
  · obtain ⟨a, ns, rfl, hS, k⟩ := h
    refine ⟨_, rfl, a, ns, rfl, hS, fun p H1 e1 hp0 P1 => ?_⟩
    -- the words
    refine ⟨_, rfl, _, rfl, p, 4, rfl, P1, by decide, by decide, fun d H2 d0 d1 K2 P2 => ⟨1, d, rfl, rfl, p, 1 + d, rfl, P2, by omega, by omega, fun wl zs H3 zl znd znm K3 P3 hwl nwl hw3 => ?_⟩⟩
    have zne : zs ≠ [] := fun z => by rw [z] at zl; simp at zl; omega
    -- the hand
    refine ⟨_, rfl, _, rfl, _, rfl, p, 4, rfl, P3, by decide, by decide, fun e H4 e0 e1' K4 P4 => ⟨1, e, rfl, rfl, p, wl, zs, 1 + e, rfl, P4, nwl, K4.k _ _ nwl hw3, zne, by omega, znm, by omega, by omega, fun q tq xs st ts H5 dr K5 P5 hq htq hw5 => ?_⟩⟩
    refine ⟨q, _, rfl, st_of hq, rfl, _, _, rfl, _, _, rfl, rfl, ?_⟩
    clear K2 P2 K3 P3 K4 P4 hw3 hwl
    have hxl := hw5.len
    have hle := dr.row.least
    have hsh := dr.short
    -- list(row)
    refine ⟨.ref tq, rfl, ?_⟩
    dsimp only [tNil]
    refine listof_go (K := K) (.inr htq) fun sl H6 e6 hsl0 hsl => ?_
    have P6 := P5.ex e6
    have nsl : sl ≠ p := fun z => P5.here (z ▸ hsl0)
    have hw6 := hw5.ex e6
    -- turned about
    refine ⟨_, rfl, _, rfl, .ref sl, xs.length, rfl, .inl ⟨_, sq_of hsl, rfl⟩, p, _, rfl, P6, by omega, by omega, fun tu H7 t0 t1 K7 P7 => ?_⟩
    obtain ⟨n, rfl⟩ := Int.eq_ofNat_of_zero_le t0
    have hsl7 := K7.k _ _ nsl hsl
    have hw7 := hw6.tu (K7.tu P6)
    refine ⟨_, rfl, _, rfl, _, rfl, ⟨sl, xs, rfl, sq_of hsl7, fun l1 hl1 => ?_⟩⟩
    rw [cut_drop]
    have e8 : Ex H7 (upd H7 l1 (.lst (xs.drop n))) := Ex.new hl1
    have hL1 : upd H7 l1 (.lst (xs.drop n)) l1 = some (.lst (xs.drop n)) := upd_same
    generalize upd H7 l1 (.lst (xs.drop n)) = H8 at e8 hL1
    refine ⟨_, rfl, _, rfl, _, rfl, sl_take (e8 _ _ hsl7) fun l2 hl2 => ?_⟩
    have e9 : Ex H8 (upd H8 l2 (.lst (xs.take n))) := Ex.new hl2
    have hL2 : upd H8 l2 (.lst (xs.take n)) l2 = some (.lst (xs.take n)) := upd_same
    generalize upd H8 l2 (.lst (xs.take n)) = H9 at e9 hL2
    refine ⟨l1, l2, _, _, rfl, rfl, e9 _ _ hL1, hL2, sz_of (by rw [List.length_take, List.length_drop]; omega), fun ol hol => ?_⟩
    have P9 := P7.ex (e8.trans e9)
    obtain ⟨nol, aol⟩ := Apart.new (o := .lst (xs.drop n ++ xs.take n)) P9 hol
    have eA : Ex H7 (upd H9 ol (.lst (xs.drop n ++ xs.take n))) := e8.trans (e9.trans (Ex.new hol))
    have PA := P7.ex eA
    have hslA := eA _ _ hsl7
    have hwA := hw7.ex eA
    have hoA : upd H9 ol (.lst (xs.drop n ++ xs.take n)) ol = some (.lst (xs.drop n ++ xs.take n)) := upd_same
    have nos : sl ≠ ol := fun z => by
      rw [← z, (e8.trans e9) _ _ hsl7] at hol
      cases hol
    generalize upd H9 ol (.lst (xs.drop n ++ xs.take n)) = HA at eA PA hslA hwA hoA aol
    have hwo : Rw HA (xs.drop n ++ xs.take n) (ts.drop n ++ ts.take n) := (hwA.drop n).app (hwA.take n)
    have pm0 : (ts.drop n ++ ts.take n).Perm ts := List.perm_append_comm.trans (by rw [List.take_append_drop])
    have olen : (xs.drop n ++ xs.take n).length = xs.length := by rw [hwo.len, pm0.length_eq, hxl]
    generalize xs.drop n ++ xs.take n = ys at hoA hwo olen
    generalize ts.drop n ++ ts.take n = us at hwo pm0
    -- two exchanged
    refine ⟨_, rfl, _, rfl, .ref ol, ys.length, rfl, .inl ⟨_, sq_of hoA, rfl⟩, p, _, rfl, PA, by omega, by omega, fun d1 HB b0 b1 KB PB => ?_⟩
    obtain ⟨i, rfl⟩ := Int.eq_ofNat_of_zero_le b0
    have hoB := KB.k _ _ nol hoA
    have aB := KB.a _ nol (some_ne hoA) aol
    refine ⟨_, rfl, _, rfl, .ref ol, ys.length, rfl, .inl ⟨_, sq_of hoB, rfl⟩, p, _, rfl, PB, by omega, by omega, fun d2 HC c0 c1 KC PC => ?_⟩
    obtain ⟨j, rfl⟩ := Int.eq_ofNat_of_zero_le c0
    have hoC := KC.k _ _ nol hoB
    have aC := KC.a _ nol (some_ne hoB) aB
    have KAC := KB.trans KC
    have hwC := hwo.tu (KAC.tu PA)
    have hslC := KAC.k _ _ nsl hslA
    have hwsC := hwA.tu (KAC.tu PA)
    have hi : i < ys.length := by omega
    have hj : j < ys.length := by omega
    obtain ⟨x, hx⟩ : ∃ x, ys[i]? = some x := ⟨_, List.getElem?_eq_getElem hi⟩
    obtain ⟨y, hy⟩ : ∃ y, ys[j]? = some y := ⟨_, List.getElem?_eq_getElem hj⟩
    obtain ⟨u, hu, sx⟩ := hwC.at hx
    obtain ⟨v, hv, sy⟩ := hwC.at hy
    refine ⟨_, rfl, _, rfl, .inl ⟨ol, _, _, x, rfl, rfl, sq_of hoC, at_of (j := i) rfl hx, ?_⟩⟩
    refine ⟨_, rfl, _, rfl, .inl ⟨ol, _, _, y, rfl, rfl, sq_of hoC, at_of (j := j) rfl hy, ?_⟩⟩
    refine ⟨_, rfl, _, rfl, ol, _, _, i, rfl, rfl, hoC, ixN_nat hi, ?_⟩
    have T1 : Tu HC (upd HC ol (.lst (ys.set i y))) := Tu.lst hoC
    refine ⟨_, rfl, _, rfl, _, rfl, ol, _, _, j, rfl, rfl, upd_same, ixN_nat (by rw [List.length_set]; exact hj), ?_⟩
    rw [upd_upd]
    have PD := PC.mut (o := .lst ((ys.set i y).set j x)) nol aC
    have TD : Tu HC (upd HC ol (.lst ((ys.set i y).set j x))) := Tu.lst hoC
    have hoD : upd HC ol (.lst ((ys.set i y).set j x)) ol = some (.lst ((ys.set i y).set j x)) := upd_same
    have hslD : upd HC ol (.lst ((ys.set i y).set j x)) sl = some (.lst xs) := by rw [upd_ne nos]; exact hslC
    generalize upd HC ol (.lst ((ys.set i y).set j x)) = HD at PD TD hoD hslD
    have hwD : Rw HD ((ys.set i y).set j x) ((us.set i v).set j u) := (((hwC.set sy i).set sx j)).tu TD
    have pm : ((us.set i v).set j u).Perm ts := (swap_perm hu hv).trans pm0
    have hwsD := hwsC.tu TD
    generalize (ys.set i y).set j x = ws at hoD hwD
    generalize (us.set i v).set j u = vs at hwD pm
    clear hx hy hu hv sx sy hwC hoC hoB hoA aC aB aol KAC KC KB PC PB PA hwo hslC hwsC hslA hwA P9 hol hL1 hL2 e8 e9 eA hw7 hsl7 P7 K7 hw6 hsl e6 P6 hw5 P5 T1 TD
    have gts := dr.row
    have gvs : GoodRow vs := gts.perm pm
    have st0 := dr.st0.1
    have st9 : st ≤ 99 := by have := dr.st0.2; omega
    -- the hand
    refine ⟨_, rfl, _, rfl, fun h hdx nh nhd nne => ?_⟩
    refine init_go nh nhd nne (.inl hslD) hwsD st0 st9 gts fun HE eE hE => ⟨rfl, ?_⟩
    have PE' := PD.ex eE
    have hoE := eE _ _ hoD
    have hwE := hwD.ex eE
    have hslE := eE _ _ hslD
    have hwsE := hwsD.ex eE
    have eqs : ∀ {a b : List Stp}, a.Perm ts → b.Perm ts → (decide (st = st) && decide (sortT a = sortT b)) = true := fun {a b} pa pb => by
      rw [decide_eq_true rfl, decide_eq_true (sortT_congr (pa.trans pb.symm))]
      rfl
    -- equal to the others
    refine ⟨_, rfl, _, rfl, .ref ol, rfl, ?_⟩
    dsimp only [tNil]
    refine tupof_go (K := K) (.inl hoE) fun tp HF eF htp => ?_
    intro h2 hdx2 nh2 nhd2 nne2
    refine init_go nh2 nhd2 nne2 (.inr htp) (hwE.ex eF) st0 st9 gvs fun HG eG hG => ⟨rfl, ?_⟩
    refine eq_go ((hE.ex eF).ex eG) hG gts gvs ?_
    rw [eqs (List.Perm.refl ts) pm]
    refine ⟨true, rfl, ?_⟩
    have eEG := eF.trans eG
    refine iteF ⟨_, rfl, _, rfl, ol, ws, rfl, sq_of (eEG _ _ hoE), fun r hr => ?_⟩
    have eGr : Ex HG (upd HG r (.lst ws.reverse)) := Ex.new hr
    have hr2 : upd HG r (.lst ws.reverse) r = some (.lst ws.reverse) := upd_same
    generalize upd HG r (.lst ws.reverse) = HR at eGr hr2
    have eER := eEG.trans eGr
    dsimp only [tNil]
    intro h3 hdx3 nh3 nhd3 nne3
    refine init_go nh3 nhd3 nne3 (.inl hr2) ((hwE.ex eER).rev) st0 st9 (gvs.perm (List.reverse_perm vs)) fun HH eH hH => ⟨rfl, ?_⟩
    refine ⟨_, rfl, eq_go hH ((hE.ex eER).ex eH) (gvs.perm (List.reverse_perm vs)) gts ?_⟩
    rw [eqs ((List.reverse_perm vs).trans pm) (List.Perm.refl ts)]
    refine ⟨true, rfl, iteF ?_⟩
    have eEH := eER.trans eH
    clear hH hG htp hr2 eGr eH eER eEG eG eF
    -- the words, the steps
    have hE2 := hE.ex eEH
    obtain ⟨dxh, fsh, insh⟩ := hE2.ins
    refine ⟨_, rfl, h, dxh, fsh, rfl, insh, h, st, ts, rfl, hE2, fun l ks HI eI nd hm hl => ?_⟩
    refine ⟨_, rfl, _, rfl, fun h4 hdx4 nh4 nhd4 nne4 => ?_⟩
    have eEI := eEH.trans eI
    refine init_go nh4 nhd4 nne4 (.inl (eEI _ _ hoE)) (hwE.ex eEI) st0 st9 gvs fun HJ eJ hJ => ⟨rfl, ?_⟩
    obtain ⟨dx4, fs4, ins4⟩ := hJ.ins
    refine ⟨h4, dx4, fs4, rfl, ins4, h4, st, vs, rfl, hJ, fun l' ks' HK eK nd' hm' hl' => ?_⟩
    have eks : sortS ks' = sortS ks := sortS_congr ((List.perm_ext_iff_of_nodup nd' nd).mpr fun z => by rw [hm, hm', (pm.map _).mem_iff])
    have oks : ∀ z ∈ sortS ks, PyData.strOk z = true := fun z hz => by
      have h1 := (hm z).mp (sortS_mem.mp hz)
      obtain ⟨t, ht, rfl⟩ := List.mem_map.mp h1
      exact (gts.good t ht).ok
    refine ⟨.list ((sortS ks).map PyData.str), .list ((sortS ks).map PyData.str), .lst (sq_of ((eJ.trans eK) _ _ hl)) (str_dps _), .lst (sq_of (by rw [← eks]; exact hl')) (str_dps _), str_shaped oks, str_shaped oks, ?_⟩
    rw [strs_eqv]
    have eEK := eEI.trans (eJ.trans eK)
    clear hJ hl hl' ins4 insh eJ eK eI eEI eEH hE2
    refine ⟨false, rfl, iteF ?_⟩
    refine ⟨_, rfl, _, rfl, fun h5 hdx5 nh5 nhd5 nne5 => ?_⟩
    refine init_go nh5 nhd5 nne5 (.inl (eEK _ _ hoE)) (hwE.ex eEK) st0 st9 gvs fun HL eL hL => ⟨rfl, ?_⟩
    obtain ⟨dx5, fs5, ins5⟩ := hL.ins
    refine ⟨h5, dx5, fs5, rfl, ins5, h5, st, vs, rfl, hL, fun tp xs5 htp hw5 => ?_⟩
    refine ⟨.ref ol, rfl, ?_⟩
    dsimp only [tNil]
    refine tupof_go (K := K) (.inl (eL _ _ (eEK _ _ hoE))) fun tp2 HM eM htp2 => ?_
    have eEM := eEK.trans (eL.trans eM)
    have okv : ∀ z ∈ vs, OkS z := fun z hz => (gvs.good z hz).ok
    refine ⟨.tuple (vs.map encS), .tuple (vs.map encS), .tup (st_of (eM _ _ htp)) (hw5.ex eM).dps, .tup (st_of htp2) (hwE.ex eEM).dps, encSs_shapedT okv, encSs_shapedT okv, ?_⟩
    rw [encSs_eqvT, decide_eq_true rfl]
    refine ⟨false, rfl, iteF ?_⟩
    -- four changed ones
    have drv : Drawn zs st vs := ⟨gvs, dr.st0, fun t ht => dr.low t (pm.mem_iff.mp ht), by rw [pm.length_eq]; exact dr.short⟩
    refine ⟨4, rfl, by decide, by decide, for_range (fun m σ' H' => ∃ v12 v13 v14 v15 v16, σ' = [some (.ref a), some (.ref p), some (.ref wl), some (.int st), some (.ref tq), some (.ref sl), some (.int (n : Int)), some (.ref ol), some (.int (i : Int)), some (.int (j : Int)), some x, some (.ref h), v12, v13, v14, v15, v16] ∧ Pool H' p ∧ HandAt C_Hand H' h st ts ∧ H' ol = some (.lst ws) ∧ Rw H' ws vs ∧ H' sl = some (.lst xs) ∧ Rw H' xs ts)
      ⟨none, none, none, none, none, rfl, PE'.ex eEM, hE.ex eEM, eEM _ _ hoE, hwE.ex eEM, eEM _ _ hslE, hwsE.ex eEM⟩ ?_ ?_⟩
    · rintro m σ' H' hm4 ⟨v12, v13, v14, v15, v16, rfl, PP, hh, ho, hwo, hs, hws⟩
      refine ⟨_, rfl, _, rfl, _, rfl, p, ol, ws, st, vs, zs, rfl, PP, nol, ho, hwo, drv, fun q b ys st' ts' H2 g' s0 s9 K2 P2 nbp hq hb hys => ?_⟩
      have hh2 := hh.kp PP K2
      have ho2 := K2.k _ _ nol ho
      have hs2 := K2.k _ _ nsl hs
      have hwo2 := hwo.tu (K2.tu PP)
      have hws2 := hws.tu (K2.tu PP)
      refine ⟨q, _, rfl, st_of hq, rfl, _, _, rfl, _, _, rfl, rfl, ?_⟩
      refine ⟨_, rfl, _, rfl, fun h6 hdx6 nh6 nhd6 nne6 => ?_⟩
      refine init_go nh6 nhd6 nne6 (.inl hb) hys s0 s9 g' fun H3 e3 h3 => ⟨rfl, ?_⟩
      obtain ⟨due, hdue⟩ : ∃ d, (decide (st' = st) && decide (sortT ts' = sortT ts)) = d := ⟨_, rfl⟩
      have b1 : (decide (st = st') && decide (sortT ts = sortT ts')) = due := by
        rw [← hdue]
        congr 1
        · rw [Bool.eq_iff_iff]; simp [eq_comm]
        · rw [Bool.eq_iff_iff]; simp [eq_comm]
      refine ⟨fun σ2 H4 => Ex H3 H4 ∧ σ2 = [some (.ref a), some (.ref p), some (.ref wl), some (.int st), some (.ref tq), some (.ref sl), some (.int (n : Int)), some (.ref ol), some (.int (i : Int)), some (.int (j : Int)), some x, some (.ref h), some (.int (0 + (m : Int))), some (.int st'), some (.ref b), some (.ref h6), some (.bl due)], ?_, ?_⟩
      · refine ⟨_, rfl, _, rfl, rfl, _, rfl, ?_⟩
        have ed : decide (V.int st' = V.int st) = decide (st' = st) := by
          rw [Bool.eq_iff_iff]
          simp
        rw [ed]
        cases hd : decide (st' = st) with
        | false =>
          rw [hd] at hdue
          have hdf : due = false := by rw [← hdue]; rfl
          rw [hdf]
          exact ⟨Ex.refl _, rfl⟩
        | true =>
          rw [hd] at hdue
          have hdt : due = decide (sortT ts' = sortT ts) := by rw [← hdue]; rfl
          refine ⟨.ref b, rfl, ?_⟩
          dsimp only [tNil]
          refine sortl_go (K := K) (e3 _ _ hb) (hys.ex e3) fun ys1 q1 H5 e5 hq1 hy1 => ?_
          refine ⟨.ref sl, rfl, ?_⟩
          dsimp only [tNil]
          refine sortl_go (K := K) (e5 _ _ (e3 _ _ hs2)) ((hws2.ex e3).ex e5) fun ys2 q2 H7 e7 hq2 hy2 => ?_
          have o1 : ∀ z ∈ sortT ts', OkS z := fun z hz => (g'.good z ((sortT_perm ts').mem_iff.mp hz)).ok
          have o2 : ∀ z ∈ sortT ts, OkS z := fun z hz => (gts.good z ((sortT_perm ts).mem_iff.mp hz)).ok
          refine ⟨.list ((sortT ts').map encS), .list ((sortT ts).map encS), .lst (sq_of (e7 _ _ hq1)) (hy1.ex e7).dps, .lst (sq_of hq2) hy2.dps, encSs_shaped o1, encSs_shaped o2, ?_⟩
          rw [encSs_eqv, ← hdt]
          exact ⟨e5.trans e7, rfl⟩
      · rintro σ2 H4 ⟨e4, rfl⟩
        have hh4 := (hh2.ex e3).ex e4
        have h34 := h3.ex e4
        refine ⟨_, rfl, _, rfl, eq_go hh4 h34 gts g' ?_⟩
        rw [b1]
        refine ⟨_, rfl, rfl, false, (by rw [decide_eq_true rfl]; rfl), iteF ?_⟩
        refine ⟨_, rfl, _, rfl, eq_go h34 hh4 g' gts ?_⟩
        rw [hdue]
        refine ⟨_, rfl, rfl, false, (by rw [decide_eq_true rfl]; rfl), iteF ?_⟩
        refine ⟨_, rfl, _, rfl, ne_go hh4 h34 gts g' ?_⟩
        rw [b1]
        refine ⟨_, rfl, rfl, false, (by clear hdue b1; cases due <;> rfl), iteF ?_⟩
        have e24 := e3.trans e4
        exact ⟨_, _, _, _, _, rfl, P2.ex e24, hh4, e24 _ _ ho2, hwo2.ex e24, e24 _ _ hs2, hws2.ex e24⟩
    · rintro σ' H' ⟨v12, v13, v14, v15, v16, rfl, PP, hh, ho, hwo, hs, hws⟩
      refine ⟨_, rfl, _, rfl, eq_go hh hh gts gts ?_⟩
      rw [eqs (List.Perm.refl ts) (List.Perm.refl ts)]
      obtain ⟨dx7, fs7, ins7⟩ := hh.ins
      refine ⟨true, rfl, iteT ⟨_, rfl, h, dx7, fs7, rfl, ins7, h, st, ts, rfl, hh, _, rfl, rfl, ?_⟩⟩
      rw [decide_eq_true rfl]
      exact k H'
end
end WK

set_option Elab.async false
set_option linter.all false
set_option maxRecDepth 100000
set_option maxHeartbeats 0
namespace WK
open PySem PySem.Spec PyProof.Rows L2 WW Evl
def dG (x : Str) (st : Stmt) : He5.DefA := { at_ := fun K => He.ga K x, name := x, qual := x, params := defArgs st, body := defBody st, scope := defScope st }
def dM (m : Str) (q : Str) (st : Stmt) : He5.DefA := { at_ := fun K => He.ma K (He.ga K "Hand") m, name := m, qual := q, params := defArgs st, body := defBody st, scope := defScope st }
def dP (m : Str) (q : Str) (st : Stmt) : He5.DefA := { at_ := fun K => getr K (He.ga K "Hand") m, name := m, qual := q, params := defArgs st, body := defBody st, scope := defScope st }
def fn : List He5.DefA := [dG "law" s_law, dG "_law_changed" s__law_changed, dG "_law_hand" s__law_hand, dG "_law_names" s__law_names, dG "_law_name" s__law_name, dG "_law_pick" s__law_pick, dG "_law_draw" s__law_draw, dG "_law_pool" s__law_pool,
  dG "is_one_too_many" s_is_one_too_many, dG "is_step" s_is_step, dG "check_steps" s_check_steps, dG "is_state" s_is_state, dG "is_name" s_is_name, dG "is_row_of" s_is_row_of, dG "is_row" s_is_row, dG "is_integer" s_is_integer,
  dM "__init__" "Hand.__init__" s_Hand___init__, dM "__eq__" "Hand.__eq__" s_Hand___eq__, dP "start" "Hand.start" s_Hand_start, dP "steps" "Hand.steps" s_Hand_steps, dP "words" "Hand.words" s_Hand_words]
def gnames : List Str := ["law", "_law_changed", "_law_hand", "_law_names", "_law_name", "_law_pick", "_law_draw", "_law_pool", "is_one_too_many", "is_step", "check_steps", "is_state", "is_name", "is_row_of", "is_row", "is_integer", "Hand"]
def bnames : List Str := ["len", "isinstance", "int", "bool", "str", "list", "tuple", "all", "abs", "max", "sorted", "range", "enumerate"]
def oth : List He.Fa := [.int "MOST_LETTERS" 10, .int "GREATEST_STATE" 99, .int "MOST_STEPS" 20, .int "MOST_STEPS_AT_ONE_STATE" 3, .cls "Hand", .mkr "Hand", .meth "Hand" "__eq__", .noat "Hand" "_start", .noat "Hand" "_steps", .noat "Hand" "_words", .noat "Hand" "_ordered_steps"]
def fa : List He.Fa := gnames.map He.Fa.glo ++ (bnames.map He.Fa.free ++ oth)
theorem gl_mem {x : Str} (h : x ∈ gnames) : He.Fa.glo x ∈ fa := List.mem_append_left _ (List.mem_map.mpr ⟨x, h, rfl⟩)
theorem fr_mem {x : Str} (h : x ∈ bnames) : He.Fa.free x ∈ fa := List.mem_append_right _ (List.mem_append_left _ (List.mem_map.mpr ⟨x, h, rfl⟩))
theorem ot_mem {f : He.Fa} (i : Nat) (h : oth[i]? = some f) : f ∈ fa := List.mem_append_right _ (List.mem_append_right _ (List.mem_of_getElem? h))
def isaB (K : PySem.W.Frag) (C : Addr) : Bool := He.eqO (PySem.W.findIn K (.ref C) "__class__") (some (some (.builtin "object.__class__"))) && (He.eqO (PySem.W.specialIn K (.builtin "object.__class__") "__get__") (some (some (.builtin "getset_descriptor.__get__"))) && (decide (PySem.W.takesIn K (.builtin "object.__class__") = some true) && decide (PySem.W.mroIn K C (.type "object") = some true)))
theorem isaB_ok {K : PySem.W.Frag} {C : Addr} (h : isaB K C = true) (cl : Cls K C) (H : Hp) (a dx : Addr) (fs : List (Str × V)) (e : H a = some (.ins C dx fs)) : TyOf K H (.ref a) (.ref C) := by
  obtain ⟨h1, h⟩ := He.ba h
  obtain ⟨h2, h⟩ := He.ba h
  obtain ⟨h3, h4⟩ := He.ba h
  exact .ins e cl (He.eqO_ok h1) (He.eqO_ok h2) (of_decide_eq_true h3) (of_decide_eq_true h4)
def ex (K : PySem.W.Frag) : Bool := isaB K (He.ga K "Hand") && (He.eqO (PySem.W.findIn K (.ref (He.ga K "Hand")) "__ne__") (some (some (.builtin "object.__ne__"))) && (propB K (He.ga K "Hand") "start" && (propB K (He.ga K "Hand") "steps" && propB K (He.ga K "Hand") "words")))
abbrev R : PySem.W.OpenRow := PySem.W.OpenLaw.row PySem.Challenge.rw_watchedworks_k01_hands_are_equal
abbrev hk : PySem.W.Hook := hookB 5 fa fn ex
def ob (s : PySem.W.SharedT) : He.AlD := obsBG 5 fa fn ex (HandSHeadRun.getT s)
theorem ob_eq (s : PySem.W.SharedT) : ob s = hk.obs s.abs := obsBG_eq (HandSHeadRun.getT_eq s)
abbrev loose : List Str := ["WorksError", "BadStart", "BadSteps", "MOST_LETTERS", "GREATEST_STATE", "is_integer", "is_row", "is_row_of", "is_name", "is_state", "MOST_STEPS", "MOST_STEPS_AT_ONE_STATE", "Hand", "check_steps", "is_step", "is_one_too_many", "_law_pool", "_law_draw", "_law_pick", "_law_name", "_law_names", "_law_hand", "_law_changed"]
theorem run (w : World) : HandSHeadRun.RunEq R (PySem.W.view R.prog [27]) hk ob 4000 loose w := by
  intro os
  kernel_rfl
theorem facts {P : Program} {w : World} {K : PySem.W.Frag} {h : Heap} {mg : Str → Option Value} {f : Addr} (X : K.In h) (Gn : h.Ns mainGlobals mg) (hfa : mg ("law" : Str) = some (.ref f)) (c : SaysB fa fn ex K) :
    ∃ fd : FuncData, (∀ (s : Shared) (v : Value), BindsTo s fd ⟨[v], []⟩ [("_law_script", v)]) ∧ ∀ base : Heap, K.In base → base.Ns mainGlobals mg → FnOk P w K mg base CXn 7 f fd ["_law_script"] (spLaw K) := by
  have G : Gz mg := ⟨He.free_ok X Gn (c.fact (fr_mem (x := "len") (by decide +kernel))), He.free_ok X Gn (c.fact (fr_mem (x := "isinstance") (by decide +kernel))), He.free_ok X Gn (c.fact (fr_mem (x := "int") (by decide +kernel))), He.free_ok X Gn (c.fact (fr_mem (x := "bool") (by decide +kernel))),
    He.free_ok X Gn (c.fact (fr_mem (x := "str") (by decide +kernel))), He.free_ok X Gn (c.fact (fr_mem (x := "list") (by decide +kernel))), He.free_ok X Gn (c.fact (fr_mem (x := "tuple") (by decide +kernel))), He.free_ok X Gn (c.fact (fr_mem (x := "all") (by decide +kernel))),
    He.free_ok X Gn (c.fact (fr_mem (x := "abs") (by decide +kernel))), He.free_ok X Gn (c.fact (fr_mem (x := "max") (by decide +kernel))), He.free_ok X Gn (c.fact (fr_mem (x := "sorted") (by decide +kernel))), He.free_ok X Gn (c.fact (fr_mem (x := "range") (by decide +kernel))), He.free_ok X Gn (c.fact (fr_mem (x := "enumerate") (by decide +kernel)))⟩
  obtain ⟨fd0, D0⟩ := c.def_ 0 (d := dG "law" s_law) rfl
  replace D0 : FunD K "law" "law" (defArgs s_law) (defBody s_law) (defScope s_law) [] [] _ fd0 := D0
  obtain ⟨fd1, D1⟩ := c.def_ 1 (d := dG "_law_changed" s__law_changed) rfl
  replace D1 : FunD K "_law_changed" "_law_changed" (defArgs s__law_changed) (defBody s__law_changed) (defScope s__law_changed) [] [] _ fd1 := D1
  obtain ⟨fd2, D2⟩ := c.def_ 2 (d := dG "_law_hand" s__law_hand) rfl
  replace D2 : FunD K "_law_hand" "_law_hand" (defArgs s__law_hand) (defBody s__law_hand) (defScope s__law_hand) [] [] _ fd2 := D2
  obtain ⟨fd3, D3⟩ := c.def_ 3 (d := dG "_law_names" s__law_names) rfl
  replace D3 : FunD K "_law_names" "_law_names" (defArgs s__law_names) (defBody s__law_names) (defScope s__law_names) [] [] _ fd3 := D3
  obtain ⟨fd4, D4⟩ := c.def_ 4 (d := dG "_law_name" s__law_name) rfl
  replace D4 : FunD K "_law_name" "_law_name" (defArgs s__law_name) (defBody s__law_name) (defScope s__law_name) [] [] _ fd4 := D4
  obtain ⟨fd5, D5⟩ := c.def_ 5 (d := dG "_law_pick" s__law_pick) rfl
  replace D5 : FunD K "_law_pick" "_law_pick" (defArgs s__law_pick) (defBody s__law_pick) (defScope s__law_pick) [] [] _ fd5 := D5
  obtain ⟨fd6, D6⟩ := c.def_ 6 (d := dG "_law_draw" s__law_draw) rfl
  replace D6 : FunD K "_law_draw" "_law_draw" (defArgs s__law_draw) (defBody s__law_draw) (defScope s__law_draw) [] [] _ fd6 := D6
  obtain ⟨fd7, D7⟩ := c.def_ 7 (d := dG "_law_pool" s__law_pool) rfl
  replace D7 : FunD K "_law_pool" "_law_pool" (defArgs s__law_pool) (defBody s__law_pool) (defScope s__law_pool) [] [] _ fd7 := D7
  obtain ⟨fd8, D8⟩ := c.def_ 8 (d := dG "is_one_too_many" s_is_one_too_many) rfl
  replace D8 : FunD K "is_one_too_many" "is_one_too_many" (defArgs s_is_one_too_many) (defBody s_is_one_too_many) (defScope s_is_one_too_many) [] [] _ fd8 := D8
  obtain ⟨fd9, D9⟩ := c.def_ 9 (d := dG "is_step" s_is_step) rfl
  replace D9 : FunD K "is_step" "is_step" (defArgs s_is_step) (defBody s_is_step) (defScope s_is_step) [] [] _ fd9 := D9
  obtain ⟨fd10, D10⟩ := c.def_ 10 (d := dG "check_steps" s_check_steps) rfl
  replace D10 : FunD K "check_steps" "check_steps" (defArgs s_check_steps) (defBody s_check_steps) (defScope s_check_steps) [] [] _ fd10 := D10
  obtain ⟨fd11, D11⟩ := c.def_ 11 (d := dG "is_state" s_is_state) rfl
  replace D11 : FunD K "is_state" "is_state" (defArgs s_is_state) (defBody s_is_state) (defScope s_is_state) [] [] _ fd11 := D11
  obtain ⟨fd12, D12⟩ := c.def_ 12 (d := dG "is_name" s_is_name) rfl
  replace D12 : FunD K "is_name" "is_name" (defArgs s_is_name) (defBody s_is_name) (defScope s_is_name) [] [] _ fd12 := D12
  obtain ⟨fd13, D13⟩ := c.def_ 13 (d := dG "is_row_of" s_is_row_of) rfl
  replace D13 : FunD K "is_row_of" "is_row_of" (defArgs s_is_row_of) (defBody s_is_row_of) (defScope s_is_row_of) [] [] _ fd13 := D13
  obtain ⟨fd14, D14⟩ := c.def_ 14 (d := dG "is_row" s_is_row) rfl
  replace D14 : FunD K "is_row" "is_row" (defArgs s_is_row) (defBody s_is_row) (defScope s_is_row) [] [] _ fd14 := D14
  obtain ⟨fd15, D15⟩ := c.def_ 15 (d := dG "is_integer" s_is_integer) rfl
  replace D15 : FunD K "is_integer" "is_integer" (defArgs s_is_integer) (defBody s_is_integer) (defScope s_is_integer) [] [] _ fd15 := D15
  obtain ⟨fd16, D16⟩ := c.def_ 16 (d := dM "__init__" "Hand.__init__" s_Hand___init__) rfl
  replace D16 : FunD K "__init__" "Hand.__init__" (defArgs s_Hand___init__) (defBody s_Hand___init__) (defScope s_Hand___init__) [] [] _ fd16 := D16
  obtain ⟨fd17, D17⟩ := c.def_ 17 (d := dM "__eq__" "Hand.__eq__" s_Hand___eq__) rfl
  replace D17 : FunD K "__eq__" "Hand.__eq__" (defArgs s_Hand___eq__) (defBody s_Hand___eq__) (defScope s_Hand___eq__) [] [] _ fd17 := D17
  obtain ⟨fd18, D18⟩ := c.def_ 18 (d := dP "start" "Hand.start" s_Hand_start) rfl
  replace D18 : FunD K "start" "Hand.start" (defArgs s_Hand_start) (defBody s_Hand_start) (defScope s_Hand_start) [] [] _ fd18 := D18
  obtain ⟨fd19, D19⟩ := c.def_ 19 (d := dP "steps" "Hand.steps" s_Hand_steps) rfl
  replace D19 : FunD K "steps" "Hand.steps" (defArgs s_Hand_steps) (defBody s_Hand_steps) (defScope s_Hand_steps) [] [] _ fd19 := D19
  obtain ⟨fd20, D20⟩ := c.def_ 20 (d := dP "words" "Hand.words" s_Hand_words) rfl
  replace D20 : FunD K "words" "Hand.words" (defArgs s_Hand_words) (defBody s_Hand_words) (defScope s_Hand_words) [] [] _ fd20 := D20
  have e0 := hfa.symm.trans (He.glo_ok X Gn (c.fact (gl_mem (x := "law") (by decide +kernel))))
  cases e0
  have E0 : Df K mg "law" s_law _ fd0 ["_law_script"] := ⟨D0, hfa, D0.bindsN fun _ _ _ _ _ _ us hl => match us, hl with | [_], _ => rfl⟩
  have E1 : Df K mg "_law_changed" s__law_changed _ fd1 ["_law_pool_here", "_law_start", "_law_steps"] := ⟨D1, He.glo_ok X Gn (c.fact (gl_mem (x := "_law_changed") (by decide +kernel))), D1.bindsN fun _ _ _ _ _ _ us hl => match us, hl with | [_, _, _], _ => rfl⟩
  have E2 : Df K mg "_law_hand" s__law_hand _ fd2 ["_law_pool_here", "_law_words", "_law_most"] := ⟨D2, He.glo_ok X Gn (c.fact (gl_mem (x := "_law_hand") (by decide +kernel))), D2.bindsN fun _ _ _ _ _ _ us hl => match us, hl with | [_, _, _], _ => rfl⟩
  have E3 : Df K mg "_law_names" s__law_names _ fd3 ["_law_pool_here", "_law_many"] := ⟨D3, He.glo_ok X Gn (c.fact (gl_mem (x := "_law_names") (by decide +kernel))), D3.bindsN fun _ _ _ _ _ _ us hl => match us, hl with | [_, _], _ => rfl⟩
  have E4 : Df K mg "_law_name" s__law_name _ fd4 ["_law_pool_here", "_law_taken"] := ⟨D4, He.glo_ok X Gn (c.fact (gl_mem (x := "_law_name") (by decide +kernel))), D4.bindsN fun _ _ _ _ _ _ us hl => match us, hl with | [_, _], _ => rfl⟩
  have E5 : Df K mg "_law_pick" s__law_pick _ fd5 ["_law_pool_here", "_law_items"] := ⟨D5, He.glo_ok X Gn (c.fact (gl_mem (x := "_law_pick") (by decide +kernel))), D5.bindsN fun _ _ _ _ _ _ us hl => match us, hl with | [_, _], _ => rfl⟩
  have E6 : Df K mg "_law_draw" s__law_draw _ fd6 ["_law_pool_here", "_law_many"] := ⟨D6, He.glo_ok X Gn (c.fact (gl_mem (x := "_law_draw") (by decide +kernel))), D6.bindsN fun _ _ _ _ _ _ us hl => match us, hl with | [_, _], _ => rfl⟩
  have E7 : Df K mg "_law_pool" s__law_pool _ fd7 ["_law_script"] := ⟨D7, He.glo_ok X Gn (c.fact (gl_mem (x := "_law_pool") (by decide +kernel))), D7.bindsN fun _ _ _ _ _ _ us hl => match us, hl with | [_], _ => rfl⟩
  have E8 : Df K mg "is_one_too_many" s_is_one_too_many _ fd8 ["step", "earlier"] := ⟨D8, He.glo_ok X Gn (c.fact (gl_mem (x := "is_one_too_many") (by decide +kernel))), D8.bindsN fun _ _ _ _ _ _ us hl => match us, hl with | [_, _], _ => rfl⟩
  have E9 : Df K mg "is_step" s_is_step _ fd9 ["thing"] := ⟨D9, He.glo_ok X Gn (c.fact (gl_mem (x := "is_step") (by decide +kernel))), D9.bindsN fun _ _ _ _ _ _ us hl => match us, hl with | [_], _ => rfl⟩
  have E10 : Df K mg "check_steps" s_check_steps _ fd10 ["steps"] := ⟨D10, He.glo_ok X Gn (c.fact (gl_mem (x := "check_steps") (by decide +kernel))), D10.bindsN fun _ _ _ _ _ _ us hl => match us, hl with | [_], _ => rfl⟩
  have E11 : Df K mg "is_state" s_is_state _ fd11 ["thing"] := ⟨D11, He.glo_ok X Gn (c.fact (gl_mem (x := "is_state") (by decide +kernel))), D11.bindsN fun _ _ _ _ _ _ us hl => match us, hl with | [_], _ => rfl⟩
  have E12 : Df K mg "is_name" s_is_name _ fd12 ["thing"] := ⟨D12, He.glo_ok X Gn (c.fact (gl_mem (x := "is_name") (by decide +kernel))), D12.bindsN fun _ _ _ _ _ _ us hl => match us, hl with | [_], _ => rfl⟩
  have E13 : Df K mg "is_row_of" s_is_row_of _ fd13 ["thing", "least", "most"] := ⟨D13, He.glo_ok X Gn (c.fact (gl_mem (x := "is_row_of") (by decide +kernel))), D13.bindsN fun _ _ _ _ _ _ us hl => match us, hl with | [_, _, _], _ => rfl⟩
  have E14 : Df K mg "is_row" s_is_row _ fd14 ["thing"] := ⟨D14, He.glo_ok X Gn (c.fact (gl_mem (x := "is_row") (by decide +kernel))), D14.bindsN fun _ _ _ _ _ _ us hl => match us, hl with | [_], _ => rfl⟩
  have E15 : Df K mg "is_integer" s_is_integer _ fd15 ["thing"] := ⟨D15, He.glo_ok X Gn (c.fact (gl_mem (x := "is_integer") (by decide +kernel))), D15.bindsN fun _ _ _ _ _ _ us hl => match us, hl with | [_], _ => rfl⟩
  have i1 := He.int_ok X Gn (c.fact (f := .int "MOST_LETTERS" 10) (ot_mem 0 rfl))
  have i2 := He.int_ok X Gn (c.fact (f := .int "GREATEST_STATE" 99) (ot_mem 1 rfl))
  have i3 := He.int_ok X Gn (c.fact (f := .int "MOST_STEPS" 20) (ot_mem 2 rfl))
  have i4 := He.int_ok X Gn (c.fact (f := .int "MOST_STEPS_AT_ONE_STATE" 3) (ot_mem 3 rfl))
  have cl := He.cls_ok (c.fact (f := .cls "Hand") (ot_mem 4 rfl))
  obtain ⟨x1, x⟩ := He.ba c.ext
  obtain ⟨x2, x⟩ := He.ba x
  obtain ⟨x3, x⟩ := He.ba x
  obtain ⟨x4, x5⟩ := He.ba x
  have T : Hd K mg (He.ga K "Hand") := ⟨cl, He.glo_ok X Gn (c.fact (gl_mem (x := "Hand") (by decide +kernel))), He.noat_ok (c.fact (f := .noat "Hand" "_start") (ot_mem 7 rfl)), He.noat_ok (c.fact (f := .noat "Hand" "_steps") (ot_mem 8 rfl)),
    He.noat_ok (c.fact (f := .noat "Hand" "_words") (ot_mem 9 rfl)), He.noat_ok (c.fact (f := .noat "Hand" "_ordered_steps") (ot_mem 10 rfl)), isaB_ok x1 cl⟩
  have mk := He.mkr_ok (c.fact (f := .mkr "Hand") (ot_mem 5 rfl))
  have me := He.meth_ok (c.fact (f := .meth "Hand" "__eq__") (ot_mem 6 rfl))
  refine ⟨fd0, fun s v => D0.bindsA (ps := ["_law_script"]) (fun _ _ _ _ _ _ us hl => match us, hl with | [_], _ => rfl) s [v] rfl, fun base _ _ => ?_⟩
  have c_int := ok_is_integer (P := P) (w := w) (base := base) G E15
  have c_row := ok_is_row (P := P) (w := w) (base := base) G E14
  have c_rowof := ok_is_row_of (P := P) (w := w) (base := base) G E13 c_row
  have c_name := ok_is_name (P := P) (w := w) (base := base) G i1 E12
  have c_state := ok_is_state (P := P) (w := w) (base := base) G i2 E11 c_int
  have c_step := ok_is_step (P := P) (w := w) (base := base) G E9 c_state c_name
  have c_many := ok_is_one_too_many (P := P) (w := w) (base := base) G i4 E8
  have c_check := ok_check_steps (P := P) (w := w) (base := base) G i3 E10 c_rowof c_step c_many
  have c_pool := ok_pool (P := P) (w := w) (base := base) G E7
  have c_draw := ok_draw (P := P) (w := w) (base := base) G E6
  have c_pick := ok_pick (P := P) (w := w) (base := base) G E5 c_draw
  have c_nm := ok_name (P := P) (w := w) (base := base) G E4 c_draw
  have c_nms := ok_names (P := P) (w := w) (base := base) G E3 c_nm
  have c_hand := ok_hand (P := P) (w := w) (base := base) G E2 c_draw c_pick
  have c_ch := ok_changed (P := P) (w := w) (base := base) G E1 c_draw c_pick
  have O : Ops P w K mg base (He.ga K "Hand") := {
    mkh := ⟨_, fd16, mk, ok_init G T D16 c_state c_check, D16.bindsN fun _ _ _ _ _ _ us hl => match us, hl with | [_, _, _], _ => rfl⟩
    eqh := ⟨_, fd17, me.at_, me.fn, ok_eq G T D17, D17.bindsN fun _ _ _ _ _ _ us hl => match us, hl with | [_, _], _ => rfl⟩
    ne := He.eqO_ok x2
    mro := L2.mro_obj mk.makes
    words := ⟨_, _, fd20, propB_ok x5, ok_words G T D20, D20.bindsN fun _ _ _ _ _ _ us hl => match us, hl with | [_], _ => rfl⟩
    steps := ⟨_, _, fd19, propB_ok x4, ok_steps T D19, D19.bindsN fun _ _ _ _ _ _ us hl => match us, hl with | [_], _ => rfl⟩
    start := ⟨_, _, fd18, propB_ok x3, ok_start T D18, D18.bindsN fun _ _ _ _ _ _ us hl => match us, hl with | [_], _ => rfl⟩ }
  exact ok_law G E0 T O c_pool c_draw c_nms c_hand c_ch
end WK
open PySem PySem.W PySem.Calls PyProof.Rows
theorem PySem.Challenge.cw_watchedworks_k01_hands_are_equal_holds : PySem.Challenge.rw_watchedworks_k01_hands_are_equal.Holds := by
  w_on; o_law
  refine HandSHeadRun.head_any (r := OpenLaw.row PySem.Challenge.rw_watchedworks_k01_hands_are_equal) (q := view (OpenLaw.row PySem.Challenge.rw_watchedworks_k01_hands_are_equal).prog [27]) (H := WK.hk) (ob := WK.ob) (M := 4000) (loose := WK.loose) (d := HandSHeadRun.topDef (OpenLaw.row PySem.Challenge.rw_watchedworks_k01_hands_are_equal).prog 27) (kwd := []) WK.ob_eq
    (by kernel_rfl) (fun s => by kernel_rfl) WK.run (by kernel_rfl) (by kernel_rfl) (by kernel_rfl) (by rfl) (by first | assumption | decide +kernel) (by decide +kernel) ⟨rfl, rfl, rfl, rfl, rfl, by decide +kernel⟩ ?hw ?hc
  case hw => w_witness2
  case hc =>
    refine L2.walk_ofE (l := PySem.Challenge.rw_watchedworks_k01_hands_are_equal) (n := 63) (k := 7) (x := "_law_script") (CX := WW.CXn) rfl (by decide) (by kernel_rfl) ⟨rfl, by decide, by decide⟩ ?F (fun _ _ _ _ z => z)
    intro w mg fa h Y G hmg0
    obtain ⟨K, KX, c⟩ := Y
    have hmg : mg ("law" : PySem.Str) = some (.ref fa) := by
      have e : (HandSHeadRun.topDef (OpenLaw.row PySem.Challenge.rw_watchedworks_k01_hands_are_equal).prog 27).name = ("law" : PySem.Str) := by kernel_rfl
      rw [← e]
      exact hmg0
    obtain ⟨fd, hb, hF⟩ := WK.facts (P := (PySem.Challenge.rw_watchedworks_k01_hands_are_equal).prog) (w := w) KX G hmg c
    exact ⟨K, fd, WK.spLaw K, KX, hb, fun H a ns hl _ hS => ⟨a, ns, rfl, hS, fun _ => rfl⟩, hF⟩
