import PyProof.Rows.All
import Wide.All
import OpenK.AllK
import Wide.FinOn
import HandS.ForMost
import HandS.Set
import HandS.Strs
import HandS.IsInst
import HandS.FStr
import HandS.TryOnly
import HandS.RaiseMore
import HandS.OwnEq
import HandS.More
import KE.KCallOwn
import OpenK.KOps
import PyProof.InstNe
import HandS.Property
import HandS.Evl
import HandS.Walk
import HandS.ForExc
import HandS.ExcInit
import KE.KExcSuper
import HandS.ExcField
import HandS.ClsMeth
import HandS.CallSlots
import KE.KExcIs
import PySem.Challenge.RW_tiedsteps_k02_texts_that_are_no_terms
set_option Elab.async false
set_option linter.all false
set_option maxRecDepth 100000
set_option maxHeartbeats 4000000
namespace TS
open PySem PySem.Spec PyProof.Rows L2
/-! sets of keys of one kind, with what is needed to walk them: set(xs), sorted(set) -/
section
variable {P : Program} {w : World} {κ : Type} [DecidableEq κ] {kd : KeyKind P w κ}
/-- an entry that holds the key k -/
def Holds1 (kd : KeyKind P w κ) (e : Int × Value) (k : κ) : Prop := kd.is k e.2 = true ∧ e.1 = kd.hash k ∧ e.2.scannable = true
theorem paired_perm {α β : Type} {R : α → β → Prop} : ∀ {l l' : List α}, l'.Perm l → ∀ {js : List β}, Paired R l js → ∃ js', Paired R l' js' ∧ js'.Perm js := by
  intro l l' p
  induction p with
  | nil => exact fun {js} h => ⟨js, h, .refl _⟩
  | cons x _ ih =>
    intro js h
    cases h with
    | cons h1 h2 =>
      obtain ⟨js', g, q⟩ := ih h2
      exact ⟨_ :: js', .cons h1 g, q.cons _⟩
  | swap x y l =>
    intro js h
    cases h with
    | cons h1 h2 =>
      cases h2 with
      | cons h3 h4 => exact ⟨_, .cons h3 (.cons h1 h4), .swap _ _ _⟩
  | trans _ _ ih1 ih2 =>
    intro js h
    obtain ⟨js1, g1, q1⟩ := ih2 h
    obtain ⟨js2, g2, q2⟩ := ih1 g1
    exact ⟨js2, g2, q2.trans q1⟩
theorem paired_elems : ∀ {l : List (Int × Value)} {js : List κ}, Paired (Holds1 kd) l js → ElemsOf kd l
  | _, _, .nil => fun e he => by cases he
  | _, _, .cons h r => fun e he => by
    rcases List.mem_cons.mp he with rfl | he
    · exact ⟨⟨_, h.1, h.2.1⟩, h.2.2⟩
    · exact paired_elems r e he
theorem paired_mem {k : κ} : ∀ {l : List (Int × Value)} {js : List κ}, Paired (Holds1 kd) l js → (k ∈ js ↔ ∃ e ∈ l, kd.is k e.2 = true)
  | _, _, .nil => by simp
  | _, _, .cons (a := e) (b := j) h r => by
    rw [List.mem_cons, paired_mem r]
    constructor
    · rintro (rfl | ⟨e', he, z⟩)
      · exact ⟨e, List.mem_cons_self, h.1⟩
      · exact ⟨e', List.mem_cons_of_mem _ he, z⟩
    · rintro ⟨e', he, z⟩
      rcases List.mem_cons.mp he with rfl | he
      · exact .inl (kd.inj _ _ _ z h.1)
      · exact .inr ⟨e', he, z⟩
/-- a set of the keys ks at a -/
def SetX (kd : KeyKind P w κ) (h : Heap) (a : Addr) (ks : List κ) : Prop :=
  ∃ o es ep t js, h.get? a = some o ∧ o.ExactSet ∧ o.data = .set es ep t ∧ Paired (Holds1 kd) es.toList js ∧ js.Perm ks ∧ ks.Nodup ∧ es.size < scanBound ∧ t.fits es.size = true ∧ Ris t.place.toList ∧
    (w.params.followText "set-order" = true ∨ t.led = true)
theorem SetX.keep {h h' : Heap} {a : Addr} {ks : List κ} (R : SetX kd h a ks) (z : ∀ o, h.get? a = some o → h'.get? a = some o) : SetX kd h' a ks := by
  obtain ⟨o, es, ep, t, js, ho, r⟩ := R
  exact ⟨o, es, ep, t, js, z o ho, r⟩
theorem paired_len {α β : Type} {R : α → β → Prop} : ∀ {l : List α} {js : List β}, Paired R l js → l.length = js.length
  | _, _, .nil => rfl
  | _, _, .cons _ r => by rw [List.length_cons, List.length_cons, paired_len r]
section
variable {A : Around} {E : Value → Shared → Prop} {s : Shared} {a : Addr} {ks : List κ}
theorem setX_put {gw : Bool → Sem Unit} (hg : ∀ (b : Bool) (s1 : Shared) (Q' : Unit → Shared → Prop), Q' () s1 → wpAny (model P w) A (gw b) Q' E s1)
    {o : Obj} {es : Array (Int × Value)} {ep : Nat} {t : SetTable} (ho : s.heap.get? a = some o) (hex : o.ExactSet) (hd : o.data = .set es ep t)
    {es1 : Array (Int × Value)} {t2 : SetTable} {js1 : List κ} (pj : Paired (Holds1 kd) es1.toList js1) (pk : js1.Perm ks) (nd : ks.Nodup)
    (hb1 : es1.size < scanBound) (hf2 : t2.fits es1.size = true) (hr : Ris t2.place.toList) (hl : w.params.followText "set-order" = true ∨ t2.led = true) {wasDummy : Bool} {R : Option Bool → Shared → Prop}
    (hR : ∀ h', Heap.SameBut a s.heap h' → SetX kd h' a ks → R (some true) { s with heap := h' }) :
    wpAny (model P w) A (do
        storeSet a es1 t2
        if (!wasDummy && t2.tooFull) = true then do
            gw (relayAll t2 es1 (SetTable.grown es1.size)).2.2
            storeSet a (relayAll t2 es1 (SetTable.grown es1.size)).1 (relayAll t2 es1 (SetTable.grown es1.size)).2.1
            pure (some true)
          else pure (some true)) R E s := by
  refine wpAny_bind (wpAny_storeSet_of ho hd ?_ (fits_of_scanBound hb1))
  have ho1 := L2.store_at (es' := es1) (t' := t2) ho hd
  have same1 := Heap.SameBut.update s.heap a (Obj.putSet es1 t2)
  split
  · have pm := relayAll_perm t2 es1 (SetTable.grown es1.size)
    have g1 := relayAll_fits t2 es1 (SetTable.grown es1.size)
    have g2 := relayAll_ris t2 es1 (SetTable.grown es1.size)
    have g3 := relayAll_led t2 es1 (SetTable.grown es1.size)
    generalize relayAll t2 es1 (SetTable.grown es1.size) = Z at pm g1 g2 g3 ⊢
    obtain ⟨es2, t3, gave⟩ := Z
    dsimp only at pm g1 g2 g3 ⊢
    have hsz : es2.size = es1.size := by
      rw [← Array.length_toList, pm.length_eq, Array.length_toList]
    have hb2 : es2.size < scanBound := by
      rw [hsz]
      exact hb1
    refine wpAny_bind (hg _ _ _ ?_)
    refine wpAny_bind (wpAny_storeSet_of ho1 rfl ?_ (fits_of_scanBound hb2))
    have ho2 := L2.store_at (es' := es2) (t' := t3) ho1 rfl
    obtain ⟨js2, pj2, pk2⟩ := paired_perm pm pj
    refine wpAny_pure (hR _ (same1.trans (Heap.SameBut.update _ a _)) ?_)
    exact ⟨_, es2, _, t3, js2, ho2, hex, rfl, pj2, pk2.trans pk, nd, hb2, g1, g2, hl.imp id fun z => by
      rw [g3]
      exact z⟩
  · exact wpAny_pure (hR _ same1 ⟨_, es1, _, t2, js1, ho1, hex, rfl, pj, pk, nd, hb1, hf2, hr, hl⟩)
/-- one key put in -/
theorem setX_add {k : κ} {x : Value} {Q : Bool → Shared → Prop} (hx : kd.is k x = true) (hsc : x.scannable = true) (R : SetX kd s.heap a ks) (room : ks.length + 1 < scanBound)
    (hQ : ∀ b h', Heap.SameBut a s.heap h' → SetX kd h' a (if k ∈ ks then ks else k :: ks) → Q b { s with heap := h' }) :
    wpAny (model P w) A (setAddHashed a x (kd.hash k)) Q E s := by
  obtain ⟨o, es, ep, t, js, ho, hex, hd, pj, pk, nd, hb, hf, hr, hl⟩ := R
  have hel : ElemsOf kd es.toList := paired_elems pj
  have hn : es.size = ks.length := by
    rw [← Array.length_toList, paired_len pj, pk.length_eq]
  unfold setAddHashed setAddHashedIn
  refine wpAny_holding (wpAny_bind (wpAny_setState_of ho hd hf ?_))
  dsimp only
  rw [byScan_of hsc hb hel]
  simp only [↓reduceIte]
  unfold setAddByScan
  refine wpAny_bind ?_
  refine wpAny_bind (wpAny_rule ?_)
  refine wpAny_bind (wpAny_setScan_of hx ho hd hf hel ?_)
  cases hfi : List.findIdx? (fun e => kd.is k e.2) es.toList with
  | some j =>
    dsimp only
    obtain ⟨hj, z, _⟩ := List.findIdx?_eq_some_iff_getElem.mp hfi
    have hk : k ∈ ks := pk.mem_iff.mp ((paired_mem pj).mpr ⟨es.toList[j], List.getElem_mem hj, z⟩)
    refine wpAny_pure (wpAny_pure ?_)
    refine hQ _ s.heap (Heap.SameBut.refl a s.heap) ?_
    rw [if_pos hk]
    exact ⟨o, es, ep, t, js, ho, hex, hd, pj, pk, nd, hb, hf, hr, hl⟩
  | none =>
    dsimp only
    have hk : k ∉ ks := fun z => by
      obtain ⟨e, he, y⟩ := (paired_mem pj).mp (pk.mem_iff.mpr z)
      have c := List.findIdx?_eq_none_iff.mp hfi e he
      rw [y] at c
      cases c
    have giv : ∀ (b : Bool) {s1 : Shared} {Q' : Unit → Shared → Prop}, Q' () s1 → wpAny (model P w) A (match b with | true => rule "set.scan.the-table-gave-way" | false => pure ()) Q' E s1 := fun b s1 Q' z => by
      cases b
      · exact wpAny_pure z
      · exact wpAny_rule z
    have pm := layNew_perm t es (kd.hash k) x
    have f1 := layNew_fits t es (kd.hash k) x
    have r1 := layNew_ris t es (kd.hash k) x hr
    have l1 := layNew_led t es (kd.hash k) x
    generalize layNew t es (kd.hash k) x = Z at pm f1 r1 l1 ⊢
    obtain ⟨es1, t1, wasDummy, gave⟩ := Z
    dsimp only at pm f1 r1 l1 ⊢
    rw [Array.toList_push] at pm
    have pc : es1.toList.Perm ((kd.hash k, x) :: es.toList) := pm.trans (List.perm_append_singleton _ _)
    obtain ⟨js1, pj1, pk1⟩ := paired_perm pc (js := k :: js) (.cons ⟨hx, rfl, hsc⟩ pj)
    have pk2 : js1.Perm (k :: ks) := pk1.trans (pk.cons k)
    have nd1 : (k :: ks).Nodup := List.nodup_cons.mpr ⟨hk, nd⟩
    have hb1 : es1.size < scanBound := by
      rw [← Array.length_toList, pc.length_eq, List.length_cons, Array.length_toList, hn]
      exact room
    have led : w.params.followText "set-order" = true ∨ t1.led = true := hl.imp id fun z => by
      rw [l1]
      exact z
    have fin : ∀ b h', Heap.SameBut a s.heap h' → SetX kd h' a (k :: ks) → Q b { s with heap := h' } := fun b h' sb r => by
      have z := hQ b h' sb
      rw [if_neg hk] at z
      exact z r
    refine wpAny_bind (giv _ ?_)
    split
    · refine wpAny_bind ?_
      rw [hashByValue_scannable 8 hsc]
      refine wpAny_pure ?_
      refine setX_put ?_ ho hex hd pj1 pk2 nd1 hb1 ?_ ?_ ?_ ?_
      · exact fun b s1 Q' z => giv b z
      · first | (split <;> first | exact f1 | exact SetTable.fits_plain_off f1) | exact f1
      · first | (split <;> exact r1) | exact r1
      · first | (split <;> exact led) | exact led
      · intro h' sb r
        dsimp only
        exact wpAny_pure (fin _ h' sb r)
    · refine wpAny_bind (wpAny_pure ?_)
      simp only [↓reduceIte]
      refine setX_put ?_ ho hex hd pj1 pk2 nd1 hb1 f1 r1 led ?_
      · exact fun b s1 Q' z => giv b z
      · intro h' sb r
        dsimp only
        exact wpAny_pure (fin _ h' sb r)
end
/-- a key more, if it is not there -/
def put1 (ks : List κ) (k : κ) : List κ := if k ∈ ks then ks else k :: ks
theorem put1_len (ks : List κ) (k : κ) : (put1 ks k).length ≤ ks.length + 1 := by
  unfold put1
  split
  · exact Nat.le_succ _
  · exact Nat.le_refl _
/-- the keys of a list, each once -/
def once (l : List κ) : List κ := l.foldl put1 []
theorem once_snoc (l : List κ) (k : κ) : once (l ++ [k]) = put1 (once l) k := by
  unfold once
  rw [List.foldl_append]
  rfl
theorem fold_len (l : List κ) : ∀ acc : List κ, (l.foldl put1 acc).length ≤ acc.length + l.length := by
  induction l with
  | nil => exact fun acc => Nat.le_refl _
  | cons x l ih =>
    intro acc
    have z := ih (put1 acc x)
    have y := put1_len acc x
    rw [List.foldl_cons, List.length_cons]
    omega
theorem once_len (l : List κ) : (once l).length ≤ l.length := by
  have z := fold_len l []
  simpa [once] using z
theorem fold_mem (l : List κ) (k : κ) : ∀ acc : List κ, k ∈ l.foldl put1 acc ↔ k ∈ acc ∨ k ∈ l := by
  induction l with
  | nil => exact fun acc => by simp
  | cons x l ih =>
    intro acc
    rw [List.foldl_cons, ih, List.mem_cons]
    unfold put1
    split
    · rename_i hx
      constructor
      · rintro (z | z)
        · exact .inl z
        · exact .inr (.inr z)
      · rintro (z | rfl | z)
        · exact .inl z
        · exact .inl hx
        · exact .inr z
    · rw [List.mem_cons]
      constructor
      · rintro ((z | z) | z)
        · exact .inr (.inl z)
        · exact .inl z
        · exact .inr (.inr z)
      · rintro (z | z | z)
        · exact .inl (.inr z)
        · exact .inl (.inl z)
        · exact .inr z
theorem once_mem (l : List κ) (k : κ) : k ∈ once l ↔ k ∈ l := by
  unfold once
  rw [fold_mem]
  simp
section
variable {A : Around} {R : Result → Shared → Prop} {I : Addr} {fp wr : List Addr} {G : Array GenState → Array GenState → Prop} {n : Nat} {Pv : Nat → Value → Prop} {St : Nat → Shared → Prop}
theorem loopX (W : WalksS P w A.in1 I fp wr G n Pv St) (S : Addr) (hSf : S ∉ fp) (keys : List κ) (hkl : keys.length = n) (hval : ∀ i v, Pv i v → ∃ k, keys[i]? = some k ∧ kd.is k v = true ∧ v.scannable = true) (hb : n + 1 < scanBound) :
    ∀ (m i : Nat) (s : Shared), n - i = m → i ≤ n → St i s → SetX kd s.heap S (once (keys.take i)) →
      (∀ s', Moved (S :: wr) G s s' → SetX kd s'.heap S (once keys) → R (.ok (.ret .none)) s') →
      codeAny (model P w) A (.builtin "set.update.loop" ⟨[.ref S, .ref I], []⟩) R s := by
  have hSw : S ∉ wr := fun z => hSf (W.sub _ z)
  have more : ∀ b ∈ wr, b ∈ S :: wr := fun b z => List.mem_cons_of_mem _ z
  intro m
  induction m with
  | zero =>
    intro i s hm hi hst hS hR
    obtain rfl : i = n := by omega
    refine codeAny_builtin PyProof.Rows.F.entry_set_update_loop ?_
    rw [Around.under_plainId PyProof.Rows.F.plain_set_update_loop _]
    show wpAny _ A.in1 (pyNext (.ref I) >>= _) _ _ s
    refine wpAny_bind (W.done s _ _ hst fun s' mv => ?_)
    show wpAny _ A.in1 (ret Value.none) _ _ s'
    refine wpAny_pure (hR s' (mv.mono more) ?_)
    rw [List.take_of_length_le (by omega)] at hS
    exact hS.keep fun o z => mv.heap S _ hSw z
  | succ m ih =>
    intro i s hm hi hst hS hR
    have hlt : i < n := by omega
    refine codeAny_builtin PyProof.Rows.F.entry_set_update_loop ?_
    rw [Around.under_plainId PyProof.Rows.F.plain_set_update_loop _]
    show wpAny _ A.in1 (pyNext (.ref I) >>= _) _ _ s
    refine wpAny_bind (W.item i s _ _ hlt hst fun v s' hP hst' mv => ?_)
    obtain ⟨k, hk, his, hsc⟩ := hval i v hP
    have hS' : SetX kd s'.heap S (once (keys.take i)) := hS.keep fun o z => mv.heap S _ hSw z
    show wpAny _ A.in1 (holding [v] (setAdd S v) >>= _) _ _ s'
    refine wpAny_bind (wpAny_holding ?_)
    unfold setAdd
    refine wpAny_holding ?_
    refine wpAny_bind (kd.pyHash (k := k) his ?_)
    have room : (once (keys.take i)).length + 1 < scanBound := by
      have z := once_len (keys.take i)
      rw [List.length_take] at z
      omega
    refine setX_add (s := { s' with toks := s'.toks + 1 }) his hsc hS' room fun b h' sb S2 => ?_
    have S3 : SetX kd h' S (once (keys.take (i + 1))) := by
      rw [List.take_succ, hk]
      show SetX kd h' S (once (keys.take i ++ [k]))
      rw [once_snoc]
      exact S2
    refine wpAny_pure ⟨plainId_quiet PyProof.Rows.F.plain_set_update_loop _, ih (i + 1) _ (by omega) hlt (W.frame _ s' _ _ hst' (Nat.le_succ _) fun b hb o z => ?_) S3 fun s'' mv2 S4 => ?_⟩
    · rw [sb.2 b (fun y : b = S => hSf (by rw [← y]; exact hb))]
      exact z
    · refine hR s'' (Moved.trans W.gtrans ((mv.mono more).then_heap (Nat.le_succ _) fun b o hb z => ?_) mv2) S4
      rw [sb.2 b (fun y : b = S => hb (by rw [y]; exact List.mem_cons_self))]
      exact z
end
end
end TS
namespace TS
open PySem PySem.Spec PyProof.Rows L2
abbrev setObj (w : World) : Obj := { cls := .type "set", dict := none, data := .set #[] 0 (.fresh 0 0 (!w.params.followText "set-order")) }
section
variable {P : Program} {w : World} {A : Around} {E : Value → Shared → Prop} {s : Shared}
theorem new_led (a : Value) {Q1 : Value → Shared → Prop} (h : Q1 (.ref s.heap.objs.size) { s with heap := s.heap.push (setObj w) }) :
    codeAny (model P w) A (.call (.builtin "set.__new__") ⟨[.type "set", a], []⟩) (wants Q1 E) s := by
  refine codeAny_of_tree ?_
  show wpAny _ A.in1 (do checkBuiltinCall "set.__new__" ⟨[.type "set", a], []⟩; again (.builtin "set.__new__" ⟨[.type "set", a], []⟩)) _ _ s
  refine wpAny_bind (wpAny_of_eq (PySem.F.newCall_set_1 a) (wpAny_pure ⟨plainId_quiet F.plain_set_new _, codeAny_builtin F.entry_set_new ?_⟩))
  rw [Around.under_plainId F.plain_set_new _]
  unfold Builtin.«set.__new__» Builtin.Frozenset.newClass
  have ss := sub_set_self
  obtain ⟨hp, g, d, tk, os⟩ := s
  dsimp only
  wp_walk
  refine wpAny_askSetting (wpAny_pure ?_)
  dsimp only
  simp only [newObj]
  refine wpAny_bind (wpAny_alloc (wpAny_pure ?_))
  exact wpAny_pure h
variable {κ : Type} [DecidableEq κ] {kd : KeyKind P w κ}
theorem setX_new {h : Heap} {a : Addr} (z : h.get? a = some (setObj w)) : SetX kd h a [] :=
  ⟨_, #[], 0, _, [], z, ⟨rfl, rfl, rfl⟩, rfl, .nil, .refl _, List.nodup_nil, by decide, by rfl, List.Pairwise.nil, by
    show _ ∨ (!w.params.followText "set-order") = true
    cases w.params.followText "set-order"
    · exact .inr rfl
    · exact .inl rfl⟩
/-- set(xs), xs a list of such keys -/
theorem call_setX {l : Addr} {items : Array Value} {keys : List κ} {Q : Value → Shared → Prop} (hh : A.handled = none) (hl : s.heap.IsList l items) (hkl : keys.length = items.size)
    (hval : ∀ (i : Nat) v, items[i]? = some v → ∃ k, keys[i]? = some k ∧ kd.is k v = true ∧ v.scannable = true) (hb : items.size + 1 < scanBound)
    (h : ∀ (h' : Heap) (tk : Nat), SetX kd h' s.heap.objs.size (once keys) → (∀ b o, b < s.heap.objs.size → s.heap.get? b = some o → h'.get? b = some o) → Q (.ref s.heap.objs.size) { s with heap := h', toks := tk }) :
    wpAny (model P w) A (call (.type "set") [.ref l]) Q E s := by
  obtain ⟨c, tl, hmro⟩ := F.called_set.mro
  have d1 := F.called_set.made
  have d2 := F.called_set.sub
  refine wpAny_call (codeAny_of_tree ?_)
  show wpAny _ _ (callAny (.type "set") _) _ _ _
  refine wpAny_pure ⟨Code.quiet_builtin _ (by decide +kernel), codeAny_builtin F.entry_type_call ?_⟩
  rw [Around.under_plain (weight_type_call_type "set" [.ref l] []) rfl]
  have d3 := F.called_set.notType
  have d4 := F.called_set.canCreate
  have d5 := PySem.F.typeCall_set_1 (.ref l)
  repeat (any_goals (first | assumption | wp_step))
  refine codeAny_mono (new_led (.ref l) (E := E) (Q1 := fun obj s1 => obj = .ref s.heap.objs.size ∧ s1 = { s with heap := s.heap.push (setObj w) }) ⟨rfl, rfl⟩) fun r s1 hr => ?_
  cases r with
  | error er => exact hr
  | ok fl =>
    cases fl with
    | next => exact hr.elim
    | brk => exact hr.elim
    | cont => exact hr.elim
    | ret obj =>
      obtain ⟨rfl, rfl⟩ := hr
      have hS : (s.heap.push (setObj w)).get? s.heap.objs.size = some (setObj w) := Heap.get?_push_size _ rfl
      have hT : Shared.TypeIs { s with heap := s.heap.push (setObj w) } (.ref s.heap.objs.size) "set" := ⟨_, hS, rfl⟩
      have e1 := F.called_set.init.lookup
      have e2 := F.called_set.init.bind (.ref s.heap.objs.size)
      repeat (any_goals (first | assumption | wp_step))
      refine codeAny_mono (codeAny_call_builtin (R := wants (fun r s2 => r = .none ∧ ∃ h' tk, s2 = { s with heap := h', toks := tk } ∧ SetX kd h' s.heap.objs.size (once keys) ∧ (∀ b o, b < s.heap.objs.size → s.heap.get? b = some o → h'.get? b = some o)) E)
        F.called_set.init.plain F.entry_set_init (check_set_init_1 hT ?_)) fun r2 s2 hr2 => ?_
      · obtain ⟨ol, hol, hcl, nl, hdl⟩ := hl
        obtain ⟨ocls, odict, odata, oslots⟩ := ol
        simp only at hcl hdl
        subst hcl
        subst hdl
        have hol1 : (s.heap.push (setObj w)).get? l = some { cls := .type "list", dict := odict, data := .seq items nl, slots := oslots } := Heap.get?_push_of_some _ hol
        have e3 := PySem.F.sub_list_set
        have e4 := PySem.F.sub_list_frozenset
        have e5 : (Value.type "list" == Value.type "dict") = false := by decide
        have hl1 : (s.heap.push (setObj w)).IsList l items := ⟨_, hol1, rfl, nl, rfl⟩
        unfold Builtin.«set.__init__» noKeywords Builtin.Frozenset.updateFrom
        generalize hPI : pyIter = PI
        wp_walk
        subst hPI
        refine wpAny_pyIter_list hl1 ?_
        refine wpAny_bind (wpAny_runValue ?_)
        have lS : l < s.heap.objs.size := Heap.lt_size hol
        have hh3 : A.in1.in1.in1.handled = none := by simp [hh]
        have neI : l ≠ (s.heap.push (setObj w)).objs.size := by
          rw [Heap.size_push]
          exact Nat.ne_of_lt (Nat.lt_succ_of_lt lS)
        have hSf : s.heap.objs.size ∉ [(s.heap.push (setObj w)).objs.size, l] := by
          rw [Heap.size_push]
          simp only [List.mem_cons, List.mem_singleton, List.not_mem_nil, or_false, not_or]
          exact ⟨Nat.ne_of_lt (Nat.lt_succ_self _), Nat.ne_of_gt lS⟩
        refine loopX (kd := kd) ((Walks.list hh3 _ l neI items).toS) s.heap.objs.size hSf keys hkl hval hb (items.size - 0) 0 _ (by omega) (Nat.zero_le _)
          ⟨⟨_, Heap.get?_push_size _ rfl, rfl, rfl⟩, (hl1.push _)⟩ (setX_new (Heap.get?_push_of_some _ hS)) ?_
        intro s' mv S'
        obtain ⟨h', g', d', tk', os'⟩ := s'
        obtain rfl : g' = s.gens := mv.gens
        obtain rfl : d' = s.drawn := mv.drawn
        obtain rfl : os' = s.os := mv.os
        show wpAny _ _ _ _ _ _
        refine wpAny_pure ?_
        show wpAny _ _ (ret Value.none) _ _ _
        refine wpAny_pure ⟨rfl, h', tk', rfl, S', fun b o hlt z => ?_⟩
        have b1 : b ≠ s.heap.objs.size := Nat.ne_of_lt hlt
        have b2 : b ≠ (s.heap.push (setObj w)).objs.size := by
          rw [Heap.size_push]
          exact Nat.ne_of_lt (Nat.lt_succ_of_lt hlt)
        refine mv.heap b o ?_ (Heap.get?_push_of_some _ (Heap.get?_push_of_some _ z))
        simp only [List.mem_cons, List.mem_singleton, List.not_mem_nil, or_false, not_or]
        exact ⟨b1, b2⟩
      · cases r2 with
        | error er => exact hr2
        | ok fl2 =>
          cases fl2 with
          | next => exact hr2.elim
          | brk => exact hr2.elim
          | cont => exact hr2.elim
          | ret r =>
            obtain ⟨rfl, h', tk, rfl, S', k'⟩ := hr2
            repeat (any_goals (first | assumption | wp_step))
            exact h _ _ S' k'
end
end TS
namespace TS
open PySem PySem.Spec PyProof.Rows L2
section
variable {P : Program} {w : World}
theorem paired_strs : ∀ {l : List (Int × Value)} {js : List Str}, Paired (Holds1 (PySem.strKind P w)) l js → StrsAre (l.map (·.2)) js
  | _, _, .nil => .nil
  | _, _, .cons h r => by
    obtain ⟨t, e⟩ := Value.isStrOf_shape (show Value.isStrOf _ _ = true from h.1)
    rw [List.map_cons, e]
    exact .cons _ t (paired_strs r)
theorem paired_ints : ∀ {l : List (Int × Value)} {js : List Int}, Paired (Holds1 (PySem.intKind P w)) l js → IntsAre (l.map (·.2)) js
  | _, _, .nil => .nil
  | _, _, .cons h r => by
    obtain ⟨t, e⟩ := Value.isInt_shape (show Value.isInt _ _ = true from h.1)
    rw [List.map_cons, e]
    exact .cons _ t (paired_ints r)
theorem strs_perm : ∀ {vs us : List Value}, vs.Perm us → ∀ {ss : List Str}, StrsAre us ss → ∃ ss', StrsAre vs ss' ∧ ss'.Perm ss := by
  intro vs us p
  induction p with
  | nil => exact fun {ss} h => ⟨ss, h, .refl _⟩
  | cons x _ ih =>
    intro ss h
    cases h with
    | cons y t h2 =>
      obtain ⟨js', g, q⟩ := ih h2
      exact ⟨_ :: js', .cons y t g, q.cons _⟩
  | swap x y l =>
    intro ss h
    cases h with
    | cons a t h2 =>
      cases h2 with
      | cons b u h4 => exact ⟨_, .cons b u (.cons a t h4), .swap _ _ _⟩
  | trans _ _ ih1 ih2 =>
    intro ss h
    obtain ⟨js1, g1, q1⟩ := ih2 h
    obtain ⟨js2, g2, q2⟩ := ih1 g1
    exact ⟨js2, g2, q2.trans q1⟩
theorem ints_perm : ∀ {vs us : List Value}, vs.Perm us → ∀ {ss : List Int}, IntsAre us ss → ∃ ss', IntsAre vs ss' ∧ ss'.Perm ss := by
  intro vs us p
  induction p with
  | nil => exact fun {ss} h => ⟨ss, h, .refl _⟩
  | cons x _ ih =>
    intro ss h
    cases h with
    | cons y t h2 =>
      obtain ⟨js', g, q⟩ := ih h2
      exact ⟨_ :: js', .cons y t g, q.cons _⟩
  | swap x y l =>
    intro ss h
    cases h with
    | cons a t h2 =>
      cases h2 with
      | cons b u h4 => exact ⟨_, .cons b u (.cons a t h4), .swap _ _ _⟩
  | trans _ _ ih1 ih2 =>
    intro ss h
    obtain ⟨js1, g1, q1⟩ := ih2 h
    obtain ⟨js2, g2, q2⟩ := ih1 g1
    exact ⟨js2, g2, q2.trans q1⟩
variable {A : Around} {E : Value → Shared → Prop} {s : Shared} {a : Addr}
/-- sorted(...) of such a set of texts -/
theorem sortX_strs {ks : List Str} {Q : Value → Shared → Prop} (R : SetX (PySem.strKind P w) s.heap a ks) (hh : A.handled = none) (h64 : ks.length < 64)
    (hQ : ∀ s' p (out : Array Value) (c : Nat) (ss : List Str), (∀ b o, s.heap.get? b = some o → s'.heap.get? b = some o) → s'.gens = s.gens → s'.os = s.os → s.heap.objs.size ≤ p →
      s'.heap.get? p = some (seqObj "list" out c) → StrsAre out.toList ss → ss.Perm ks → sortedS ss = true → Q (.ref p) s') :
    wpAny (model P w) A (call (.builtin "sorted") [.ref a]) Q E s := by
  obtain ⟨o, es, ep, t, js, ho, hex, hd, pj, pk, nd, hb, hf, hr, hl⟩ := R
  refine Calls.call_function_entry kind_sorted plain_sorted entry_sorted (args_sorted1 _) ?_
  unfold Builtin.«sorted»
  refine wpAny_bind (m := checkCount "sorted" 1 1 _) (wpAny_pure ?_)
  refine wpAny_bind (collect_set (A := A.in1) hh ⟨o, ho, hex.1, hd⟩ hf hb hr hl fun s1 vs k1 hz g1 o1 pm => ?_)
  obtain ⟨xs, hS, px⟩ := strs_perm pm (paired_strs pj)
  have hvl : vs.length = ks.length := by
    rw [pm.length_eq, List.length_map, paired_len pj, pk.length_eq]
  have hv6 : vs.length < 64 := by
    rw [hvl]
    exact h64
  refine wpAny_bind (wpAny_newList ?_ (Nat.le_trans (Nat.le_of_lt hv6) (by decide)))
  have at1 : (s1.heap.push (seqObj "list" vs.toArray 0)).get? s1.heap.objs.size = some (seqObj "list" vs.toArray 0) := Heap.get?_push_size _ rfl
  refine wpAny_bind (wpAny_holding (wpAny_call_entry slot_list_sort ⟨_, at1, rfl⟩ entry_list_sort (list_sort_treeK strKind_oneLt at1 hS.keysOf (fun v₁ v₂ rest e => keyKind_strs (by rw [← e]; exact hS)) hv6 fun st' hp hs => ⟨_, rfl, ?_⟩) (args_list_sort _)))
  obtain ⟨ys, g1', g2, g3⟩ := sorted_out_str hS hp hs
  obtain ⟨c, hc⟩ := sortedHeap_at (vs := vs) (out := (arrOf st').map (·.2)) at1
  refine wpAny_pure ⟨_, rfl, hQ _ s1.heap.objs.size ((arrOf st').map (·.2)) c ys (fun b u e => ?_) g1 o1 hz hc g1' (g2.trans (px.trans pk)) g3⟩
  have q := k1 b u e
  have lt := Heap.lt_size q
  show (sortedHeap (s1.heap.push (seqObj "list" vs.toArray 0)) s1.heap.objs.size vs _).get? b = some u
  rw [sortedHeap_old (Nat.ne_of_lt lt) (by rw [size_push']; exact Nat.lt_succ_of_lt lt)]
  exact Heap.get?_push_of_some _ q
/-- sorted(...) of such a set of numbers -/
theorem sortX_ints {ks : List Int} {Q : Value → Shared → Prop} (R : SetX (PySem.intKind P w) s.heap a ks) (hh : A.handled = none) (h64 : ks.length < 64)
    (hQ : ∀ s' p (out : Array Value) (c : Nat) (ss : List Int), (∀ b o, s.heap.get? b = some o → s'.heap.get? b = some o) → s'.gens = s.gens → s'.os = s.os → s.heap.objs.size ≤ p →
      s'.heap.get? p = some (seqObj "list" out c) → IntsAre out.toList ss → ss.Perm ks → ss.Pairwise (· ≤ ·) → Q (.ref p) s') :
    wpAny (model P w) A (call (.builtin "sorted") [.ref a]) Q E s := by
  obtain ⟨o, es, ep, t, js, ho, hex, hd, pj, pk, nd, hb, hf, hr, hl⟩ := R
  refine Calls.call_function_entry kind_sorted plain_sorted entry_sorted (args_sorted1 _) ?_
  unfold Builtin.«sorted»
  refine wpAny_bind (m := checkCount "sorted" 1 1 _) (wpAny_pure ?_)
  refine wpAny_bind (collect_set (A := A.in1) hh ⟨o, ho, hex.1, hd⟩ hf hb hr hl fun s1 vs k1 hz g1 o1 pm => ?_)
  obtain ⟨xs, hS, px⟩ := ints_perm pm (paired_ints pj)
  have hvl : vs.length = ks.length := by
    rw [pm.length_eq, List.length_map, paired_len pj, pk.length_eq]
  have hv6 : vs.length < 64 := by
    rw [hvl]
    exact h64
  refine wpAny_bind (wpAny_newList ?_ (Nat.le_trans (Nat.le_of_lt hv6) (by decide)))
  have at1 : (s1.heap.push (seqObj "list" vs.toArray 0)).get? s1.heap.objs.size = some (seqObj "list" vs.toArray 0) := Heap.get?_push_size _ rfl
  refine wpAny_bind (wpAny_holding (wpAny_call_entry slot_list_sort ⟨_, at1, rfl⟩ entry_list_sort (list_sort_tree at1 hS hv6 fun out ns' a1 a2 a3 => ⟨_, rfl, ?_⟩) (args_list_sort _)))
  obtain ⟨c, hc⟩ := sortedHeap_at (vs := vs) (out := out) at1
  refine wpAny_pure ⟨_, rfl, hQ _ s1.heap.objs.size out c ns' (fun b u e => ?_) g1 o1 hz hc a1 (a2.trans (px.trans pk)) a3⟩
  have q := k1 b u e
  have lt := Heap.lt_size q
  show (sortedHeap (s1.heap.push (seqObj "list" vs.toArray 0)) s1.heap.objs.size vs _).get? b = some u
  rw [sortedHeap_old (Nat.ne_of_lt lt) (by rw [size_push']; exact Nat.lt_succ_of_lt lt)]
  exact Heap.get?_push_of_some _ q
end
end TS
namespace TS
open PySem PySem.Spec PyProof.Rows L2
/-- a set of the texts ks at a -/
def SetS (P : Program) (w : World) (a : Addr) (ks : List Str) : HO := .ext fun h => SetX (PySem.strKind P w) h a ks
/-- a set of the numbers ks at a -/
def SetI (P : Program) (w : World) (a : Addr) (ks : List Int) : HO := .ext fun h => SetX (PySem.intKind P w) h a ks
section
variable {X : Cx}
theorem setS_new {P : Program} {w : World} {H : Hp} {h : Heap} {a : Addr} {ks : List Str} (R : SetX (PySem.strKind P w) h a ks) : ObjOk P w H h a (SetS P w a ks) := by
  have ⟨o, _, _, _, _, ho, _⟩ := R
  exact ⟨R, ⟨o, ho⟩, fun h1 h2 p k => SetX.keep p k⟩
theorem setI_new {P : Program} {w : World} {H : Hp} {h : Heap} {a : Addr} {ks : List Int} (R : SetX (PySem.intKind P w) h a ks) : ObjOk P w H h a (SetI P w a ks) := by
  have ⟨o, _, _, _, _, ho, _⟩ := R
  exact ⟨R, ⟨o, ho⟩, fun h1 h2 p k => SetX.keep p k⟩
theorem strs_keys {P : Program} {w : World} : ∀ {us : List Value} {ss : List Str}, StrsAre us ss → us.length = ss.length ∧ ∀ (i : Nat) v, us[i]? = some v → ∃ k, ss[i]? = some k ∧ (PySem.strKind P w).is k v = true ∧ v.scannable = true
  | _, _, .nil => ⟨rfl, fun i v e => by simp at e⟩
  | _, _, .cons y t r => by
    obtain ⟨h1, h2⟩ := strs_keys (P := P) (w := w) r
    refine ⟨by rw [List.length_cons, List.length_cons, h1], fun i v e => ?_⟩
    cases i with
    | zero =>
      have e2 : Value.str y t = v := by simpa using e
      subst e2
      exact ⟨y, rfl, PySem.strKind_is P w y t, rfl⟩
    | succ i => exact h2 i v (by simpa using e)
theorem ints_keys {P : Program} {w : World} : ∀ {us : List Value} {ss : List Int}, IntsAre us ss → us.length = ss.length ∧ ∀ (i : Nat) v, us[i]? = some v → ∃ k, ss[i]? = some k ∧ (PySem.intKind P w).is k v = true ∧ v.scannable = true
  | _, _, .nil => ⟨rfl, fun i v e => by simp at e⟩
  | _, _, .cons y t r => by
    obtain ⟨h1, h2⟩ := ints_keys (P := P) (w := w) r
    refine ⟨by rw [List.length_cons, List.length_cons, h1], fun i v e => ?_⟩
    cases i with
    | zero =>
      have e2 : Value.int y t = v := by simpa using e
      subst e2
      exact ⟨y, rfl, PySem.intKind_is P w y t, rfl⟩
    | succ i => exact h2 i v (by simpa using e)
/-- set(xs), a list of texts or of numbers -/
def rSetL (P : Program) (w : World) : List V → Hp → VK → Prop := fun vs H Q => ∃ (l : Addr) (xs : List V), vs = [V.ref l] ∧ Rd H l (.lst xs) ∧ xs.length + 1 < scanBound ∧
  ((∃ ss : List Str, xs = ss.map V.str ∧ ∀ p, H p = none → Q (.ref p) (upd H p (SetS P w p (once ss)))) ∨
   (∃ ns : List Int, xs = ns.map V.int ∧ ∀ p, H p = none → Q (.ref p) (upd H p (SetI P w p (once ns)))))
theorem cr_setL (hc : X.calm = true) : CallR X (.type "set") (rSetL X.prog X.w) := by
  intro pins s σ H vs us Q I r h
  obtain ⟨l, xs, rfl, hl, room, q⟩ := h
  rw [Vals.ref1 r]
  obtain ⟨hz, its, n, rv, hob⟩ := (show ObjOk X.prog X.w H s.heap l (.lst xs) from hl.ok I.hok)
  have hil : s.heap.IsList l its.toArray := ⟨_, hob, rfl, n, rfl⟩
  have hlen : its.length = xs.length := rv.length.symm
  rcases q with ⟨ss, rfl, q⟩ | ⟨ns, rfl, q⟩
  · obtain ⟨k1, k2⟩ := strs_keys (P := X.prog) (w := X.w) rv.strs
    refine call_setX (kd := PySem.strKind X.prog X.w) (keys := ss) (I.ok.hd hc) hil (by rw [List.size_toArray]; exact k1.symm) (fun i v e => k2 i v (by rw [List.getElem?_toArray] at e; exact e)) (by rw [List.size_toArray, hlen]; exact room) fun h' tk S' k => ?_
    exact ⟨.ref _, upd H s.heap.objs.size (SetS X.prog X.w s.heap.objs.size (once ss)), I.laid (t' := tk) (fun b u e => k b u (Heap.lt_size e) e) (Nat.le_refl _) (setS_new S'), rfl, q _ (I.hok.fresh (Nat.le_refl _))⟩
  · obtain ⟨k1, k2⟩ := ints_keys (P := X.prog) (w := X.w) rv.ints
    refine call_setX (kd := PySem.intKind X.prog X.w) (keys := ns) (I.ok.hd hc) hil (by rw [List.size_toArray]; exact k1.symm) (fun i v e => k2 i v (by rw [List.getElem?_toArray] at e; exact e)) (by rw [List.size_toArray, hlen]; exact room) fun h' tk S' k => ?_
    exact ⟨.ref _, upd H s.heap.objs.size (SetI X.prog X.w s.heap.objs.size (once ns)), I.laid (t' := tk) (fun b u e => k b u (Heap.lt_size e) e) (Nat.le_refl _) (setI_new S'), rfl, q _ (I.hok.fresh (Nat.le_refl _))⟩
/-- sorted(...) of such a set -/
def rSortX (P : Program) (w : World) : List V → Hp → VK → Prop := fun vs H Q => ∃ (a : Addr), vs = [V.ref a] ∧
  ((∃ ks : List Str, H a = some (SetS P w a ks) ∧ ks.length < 64 ∧ ∀ (ss : List Str) (p : Addr), ss.Perm ks → sortedS ss = true → H p = none → Q (.ref p) (upd H p (.lst (ss.map V.str)))) ∨
   (∃ ks : List Int, H a = some (SetI P w a ks) ∧ ks.length < 64 ∧ ∀ (ns : List Int) (p : Addr), ns.Perm ks → ns.Pairwise (· ≤ ·) → H p = none → Q (.ref p) (upd H p (.lst (ns.map V.int)))))
theorem cr_sortX (hc : X.calm = true) : CallR X (.builtin "sorted") (rSortX X.prog X.w) := by
  intro pins s σ H vs us Q I r h
  obtain ⟨a, rfl, h⟩ := h
  rw [Vals.ref1 r]
  rcases h with ⟨ks, ha, h64, q⟩ | ⟨ks, ha, h64, q⟩
  · refine sortX_strs ((I.hok a _ ha).1) (I.ok.hd hc) h64 fun s' p out c ss k g o hp hg hi pm hs => ?_
    have hlen : (ss.map V.str).length ≤ sizeLine := by
      rw [List.length_map, pm.length_eq]
      exact Nat.le_trans (Nat.le_of_lt h64) (by decide)
    have hn : H p = none := I.hok.fresh hp
    have J : Inv X pins σ (upd H p (.lst (ss.map V.str))) s' :=
      I.call' (ch := []) o (Un.laid k hp hn) (I.hok.laid k hp ⟨hlen, out.toList, c, vals_of_strs hi, hg⟩) (by rw [g]; exact I.bare) (fun _ z => nomatch z)
    exact ⟨.ref p, _, J, rfl, q ss p pm hs hn⟩
  · refine sortX_ints ((I.hok a _ ha).1) (I.ok.hd hc) h64 fun s' p out c ss k g o hp hg hi pm hs => ?_
    have hlen : (ss.map V.int).length ≤ sizeLine := by
      rw [List.length_map, pm.length_eq]
      exact Nat.le_trans (Nat.le_of_lt h64) (by decide)
    have hn : H p = none := I.hok.fresh hp
    have J : Inv X pins σ (upd H p (.lst (ss.map V.int))) s' :=
      I.call' (ch := []) o (Un.laid k hp hn) (I.hok.laid k hp ⟨hlen, out.toList, c, vals_of_ints hi, hg⟩) (by rw [g]; exact I.bare) (fun _ z => nomatch z)
    exact ⟨.ref p, _, J, rfl, q ss p pm hs hn⟩
end
end TS
namespace TS
open PySem L2
/-! trees of terms: words, digits, choices; what stands for them in the heap -/
inductive Tr where
  | num (n : Int)
  | wd (x : Str)
  | ch (a b c d : Tr)
def Tr.deep : Tr → Nat
  | .num _ => 1
  | .wd _ => 1
  | .ch a b c d => 1 + max (max a.deep b.deep) (max c.deep d.deep)
def Tr.text : Tr → Str
  | .num n => toString n
  | .wd x => x
  | .ch a b c d => Str.empty ++ "(" ++ a.text ++ "=" ++ b.text ++ "?" ++ c.text ++ ":" ++ d.text ++ ")"
/-- its constants are of one sign -/
def Tr.small : Tr → Prop
  | .num n => 0 ≤ n ∧ n ≤ 9
  | .wd _ => True
  | .ch a b c d => a.small ∧ b.small ∧ c.small ∧ d.small
def Tr.leaves : Tr → List V
  | .num n => [.int n]
  | .wd x => [.str x]
  | .ch a b c d => a.leaves ++ (b.leaves ++ (c.leaves ++ (d.leaves ++ [])))
/-- the value v is the tree t -/
inductive TrAt (H : Hp) : V → Tr → Prop where
  | num (n : Int) : TrAt H (.int n) (.num n)
  | wd (x : Str) : TrAt H (.str x) (.wd x)
  | ch {p : Addr} {u v y z : V} {a b c d : Tr} (h : H p = some (.tup [u, v, y, z])) (ha : TrAt H u a) (hb : TrAt H v b) (hc : TrAt H y c) (hd : TrAt H z d) : TrAt H (.ref p) (.ch a b c d)
theorem TrAt.same {H H' : Hp} {v : V} {t : Tr} (h : TrAt H v t) (s : Same H H') : TrAt H' v t := by
  induction h with
  | num n => exact .num n
  | wd x => exact .wd x
  | ch h _ _ _ _ a b c d => exact .ch (s _ _ h) a b c d
theorem Tr.deep_pos (t : Tr) : 1 ≤ t.deep := by
  cases t <;> simp only [Tr.deep] <;> omega
theorem same_upd {H : Hp} {p : Addr} (h : H p = none) (o : HO) : Same H (upd H p o) := fun b u q => by
  rw [upd_ne (ne_of_none q h)]
  exact q
/-- a comprehension over a tuple, whose element is a call that changes nothing -/
theorem lc_mapT {K : PySem.W.Frag} {p D : Addr} {xs ys : List V} {k : Nat} {te : TE} {σ : St} {H : Hp} {Qd : Hp → Prop} (hp : H p = some (.tup xs)) (hl : ys.length = xs.length) (h6 : xs.length ≤ 1000) (hD : H D = none)
    (hw : ∀ v, wipe ((wipe σ [k]).set k v) [k] = wipe σ [k])
    (step : ∀ (i : Nat) (x y : V) (H1 : Hp) (R : VK), xs[i]? = some x → ys[i]? = some y → Same H H1 → (∀ H2, Same H1 H2 → R y H2) → te ((wipe σ [k]).set k (some x)) H1 R)
    (hd : ∀ H1, Same H H1 → H1 D = some (.lst ys) → Qd H1) :
    ∃ W : Nat → Nat → Hp → Prop, (∃ m, W 0 m (upd H D (.lst []))) ∧ ∀ i m H, W i m H →
      ((Itt K p).stop i H ∧ Qd H) ∨ ((Itt K p).go i H ∧ ∃ Nx : Hp → Prop, (∀ H', Nx H' → ∃ m', m' < m ∧ W (i + 1) m' H') ∧ ∀ x H', (Itt K p).yld i H x H' → gName k x (wipe σ [k]) H' fun σ2 H2 => wipe σ2 [k] = wipe σ [k] ∧ tYes σ2 H2 fun b H3 =>
        if b = true then te σ2 H3 fun y H4 => ∃ acc, H4 D = some (.lst acc) ∧ acc.length < sizeLine ∧ Nx (upd H4 D (.lst (acc ++ [y]))) else Nx H3) := by
  have hpD : p ≠ D := ne_of_none hp hD
  refine lc_tup (K := K) (a := p) (xs := xs) (fun i H1 => Same H H1 ∧ H1 D = some (.lst (ys.take i))) ⟨same_upd hD _, upd_same⟩ (fun i H1 _ z => SqT.of (z.1 _ _ hp)) (fun i x H1 hx z => ?_) (fun H1 z => ?_)
  · obtain ⟨s1, d1⟩ := z
    have hi : i < xs.length := (List.getElem?_eq_some_iff.mp hx).1
    have hy : ys[i]? = some ys[i] := List.getElem?_eq_getElem (by omega)
    refine ⟨hw _, ?_⟩
    unfold tYes
    dsimp only
    rw [if_pos rfl]
    refine step i x ys[i] H1 _ hx hy s1 fun H2 s2 => ?_
    refine ⟨ys.take i, s2 _ _ d1, ?_, ?_⟩
    · rw [List.length_take]
      exact Nat.lt_of_le_of_lt (Nat.le_trans (Nat.min_le_right _ _) (by rw [hl]; exact h6)) (by decide)
    · refine ⟨fun b o q => ?_, ?_⟩
      · have hb : b ≠ D := ne_of_none q hD
        rw [upd_ne hb]
        exact s2 _ _ (s1 _ _ q)
      · rw [upd_same, List.take_succ, hy]
        rfl
  · obtain ⟨s1, d1⟩ := z
    rw [List.take_of_length_le (by omega)] at d1
    exact hd H1 s1 d1
theorem cr_or {X : Cx} {f : Value} {r1 r2 : List V → Hp → VK → Prop} (h1 : CallR X f r1) (h2 : CallR X f r2) : CallR X f (fun xs H Q => r1 xs H Q ∨ r2 xs H Q) := by
  intro pins s σ H xs us Q I r h
  rcases h with h | h
  · exact h1 pins s σ H xs us Q I r h
  · exact h2 pins s σ H xs us Q I r h
end TS
namespace TS
open PySem L2
/-! what the reader of terms tells, sign by sign -/
def isLet (c : Nat) : Bool := decide (c ∈ ("abcdefghijklmnopqrstuvwxyz" : Str).cps.toList)
def isDig (c : Nat) : Bool := decide (c ∈ ("0123456789" : Str).cps.toList)
theorem let_codes : ("abcdefghijklmnopqrstuvwxyz" : Str).cps.toList = [97, 98, 99, 100, 101, 102, 103, 104, 105, 106, 107, 108, 109, 110, 111, 112, 113, 114, 115, 116, 117, 118, 119, 120, 121, 122] := by decide +kernel
theorem dig_codes : ("0123456789" : Str).cps.toList = [48, 49, 50, 51, 52, 53, 54, 55, 56, 57] := by decide +kernel
theorem isLet_iff {c : Nat} : isLet c = true ↔ 97 ≤ c ∧ c ≤ 122 := by
  unfold isLet
  rw [let_codes, decide_eq_true_iff]
  simp only [List.mem_cons, List.not_mem_nil, or_false]
  omega
theorem isDig_iff {c : Nat} : isDig c = true ↔ 48 ≤ c ∧ c ≤ 57 := by
  unfold isDig
  rw [dig_codes, decide_eq_true_iff]
  simp only [List.mem_cons, List.not_mem_nil, or_false]
  omega
def wend (cs : List Nat) (i : Nat) : Nat := i + ((cs.drop i).takeWhile isLet).length
def seg (z : Str) (i j : Nat) : Str := cutS z (some (i : Int)) (some (j : Int))
def partsAt (p : Nat → Option (Tr × Nat)) (cs : List Nat) : List Nat → Nat → Option (List Tr × Nat)
  | [], i => some ([], i)
  | s :: ss, i => if cs[i]? = some s then
      match p (i + 1) with
      | none => none
      | some (t, e) => match partsAt p cs ss e with
        | none => none
        | some (ts, e') => some (t :: ts, e')
    else none
def choiceAt (p : Nat → Option (Tr × Nat)) (cs : List Nat) (i : Nat) : Option (Tr × Nat) := match partsAt p cs [40, 61, 63, 58] i with
  | some ([a, b, c, d], e) => if cs[e]? = some 41 then some (.ch a b c d, e + 1) else none
  | _ => none
def treeAt (z : Str) : Nat → Nat → Option (Tr × Nat)
  | 0, _ => none
  | r + 1, i => match z.cps.toList[i]? with
    | none => none
    | some c => if c = 40 then choiceAt (treeAt z r) z.cps.toList i
      else if isDig c = true then some (.num ((c : Int) - 48), i + 1)
      else if 1 ≤ wend z.cps.toList i - i ∧ wend z.cps.toList i - i ≤ 8 then some (.wd (seg z i (wend z.cps.toList i)), wend z.cps.toList i) else none
def treeOf (z : Str) : Option Tr := match treeAt z 3 0 with
  | some (t, e) => if e = z.length then some t else none
  | none => none
/-- a word as it may stand in a term -/
def WordOk (x : Str) : Prop := 1 ≤ x.length ∧ x.length ≤ 8 ∧ ∀ c ∈ x.cps.toList, isLet c = true
def Tr.fine : Tr → Prop
  | .num n => 0 ≤ n ∧ n ≤ 9
  | .wd x => WordOk x
  | .ch a b c d => a.fine ∧ b.fine ∧ c.fine ∧ d.fine
theorem Tr.fine.small : ∀ {t : Tr}, t.fine → t.small
  | .num _, h => h
  | .wd _, _ => True.intro
  | .ch _ _ _ _, h => ⟨h.1.small, h.2.1.small, h.2.2.1.small, h.2.2.2.small⟩
theorem seg_codes (z : Str) {i j : Nat} (h : i ≤ j) (hj : j ≤ z.length) : (seg z i j).cps.toList = (z.cps.toList.drop i).take (j - i) := by
  have e1 : HT.sIx z.length 0 (some (i : Int)) = i := by
    unfold HT.sIx
    simp only
    rw [if_neg (by omega)]
    omega
  have e2 : HT.sIx z.length z.length (some (j : Int)) = j := by
    unfold HT.sIx
    simp only
    rw [if_neg (by omega)]
    omega
  unfold seg cutS
  rw [e1, e2]
theorem str_ext {a b : Str} (h : a.cps.toList = b.cps.toList) : a = b := by
  cases a
  cases b
  simp only [Str.mk.injEq]
  exact Array.ext' h
theorem len_codes (a : Str) : a.cps.toList.length = a.length := by
  unfold Str.length
  simp
theorem codes_append (a b : Str) : (a ++ b).cps.toList = a.cps.toList ++ b.cps.toList := by
  show (a.cps ++ b.cps).toList = _
  simp
theorem codes_digit {n : Int} (h0 : 0 ≤ n) (h9 : n ≤ 9) : ((toString n : String) : Str).cps.toList = [48 + n.toNat] := by
  have h : n = 0 ∨ n = 1 ∨ n = 2 ∨ n = 3 ∨ n = 4 ∨ n = 5 ∨ n = 6 ∨ n = 7 ∨ n = 8 ∨ n = 9 := by omega
  rcases h with rfl | rfl | rfl | rfl | rfl | rfl | rfl | rfl | rfl | rfl <;> decide +kernel
theorem codes_ch (a b c d : Tr) : (Tr.ch a b c d).text.cps.toList = 40 :: (a.text.cps.toList ++ 61 :: (b.text.cps.toList ++ 63 :: (c.text.cps.toList ++ 58 :: (d.text.cps.toList ++ [41])))) := by
  have e1 : Str.empty.cps.toList = [] := rfl
  have e2 : ("(" : Str).cps.toList = [40] := by decide +kernel
  have e3 : ("=" : Str).cps.toList = [61] := by decide +kernel
  have e4 : ("?" : Str).cps.toList = [63] := by decide +kernel
  have e5 : (":" : Str).cps.toList = [58] := by decide +kernel
  have e6 : (")" : Str).cps.toList = [41] := by decide +kernel
  simp only [Tr.text, codes_append, e1, e2, e3, e4, e5, e6, List.append_assoc, List.nil_append, List.cons_append]
/-- no letter stands ahead of what follows -/
def NoLet (post : List Nat) : Prop := ∀ c, post.head? = some c → isLet c = false
theorem takeWhile_word {w post : List Nat} (hw : ∀ c ∈ w, isLet c = true) (hp : NoLet post) : (w ++ post).takeWhile isLet = w := by
  induction w with
  | nil =>
    cases post with
    | nil => rfl
    | cons c cs =>
      have := hp c rfl
      simp [List.takeWhile, this]
  | cons c cs ih =>
    have h1 := hw c (by simp)
    rw [List.cons_append, List.takeWhile_cons_of_pos h1, ih fun x hx => hw x (by simp [hx])]
theorem noLet_cons {c : Nat} {cs : List Nat} (h : isLet c = false) : NoLet (c :: cs) := fun d e => by
  simp only [List.head?_cons, Option.some.injEq] at e
  rw [← e]
  exact h
theorem get_mid {pre : List Nat} {c : Nat} {post : List Nat} : (pre ++ c :: post)[pre.length]? = some c := by
  rw [List.getElem?_append_right (Nat.le_refl _), Nat.sub_self]
  rfl
theorem drop_mid {pre post : List Nat} : (pre ++ post).drop pre.length = post := List.drop_left
/-- the reader finds the text of a tree -/
theorem treeAt_text (z : Str) : ∀ (t : Tr) (r : Nat) (pre post : List Nat), t.fine → t.deep ≤ r → z.cps.toList = pre ++ (t.text.cps.toList ++ post) → NoLet post →
    treeAt z r pre.length = some (t, pre.length + t.text.cps.toList.length) := by
  intro t
  induction t with
  | num n =>
    intro r pre post hf hd hz hp
    obtain ⟨r, rfl⟩ : ∃ q, r = q + 1 := ⟨r - 1, by simp only [Tr.deep] at hd; omega⟩
    have ec : (Tr.num n).text.cps.toList = [48 + n.toNat] := codes_digit hf.1 hf.2
    have h0 := hf.1
    have h9 := hf.2
    rw [ec] at hz ⊢
    have eg : z.cps.toList[pre.length]? = some (48 + n.toNat) := by
      rw [hz, List.cons_append, List.nil_append]
      exact get_mid
    unfold treeAt
    rw [eg]
    simp only
    rw [if_neg (by omega), if_pos (isDig_iff.mpr (by omega))]
    have e : ((48 + n.toNat : Nat) : Int) - 48 = n := by omega
    rw [e]
    rfl
  | wd x =>
    intro r pre post hf hd hz hp
    obtain ⟨r, rfl⟩ : ∃ q, r = q + 1 := ⟨r - 1, by simp only [Tr.deep] at hd; omega⟩
    obtain ⟨h1, h8, hl⟩ := hf
    show treeAt z (r + 1) pre.length = some (.wd x, pre.length + x.cps.toList.length)
    have hz' : z.cps.toList = pre ++ (x.cps.toList ++ post) := hz
    have hxl := len_codes x
    cases hx : x.cps.toList with
    | nil =>
      rw [hx] at hxl
      simp only [List.length_nil] at hxl
      omega
    | cons c cs =>
      have hc : isLet c = true := hl c (by rw [hx]; simp)
      have hcc := isLet_iff.mp hc
      have eg : z.cps.toList[pre.length]? = some c := by
        rw [hz', hx, List.cons_append]
        exact get_mid
      have ew : wend z.cps.toList pre.length = pre.length + x.length := by
        unfold wend
        rw [hz', drop_mid, takeWhile_word hl hp, hxl]
      have zl : z.length = pre.length + (x.length + post.length) := by
        rw [← len_codes z, hz', List.length_append, List.length_append, hxl]
      have es : seg z pre.length (pre.length + x.length) = x := by
        apply str_ext
        rw [seg_codes z (Nat.le_add_right _ _) (by omega), hz', drop_mid, Nat.add_sub_cancel_left, ← hxl, List.take_left]
      unfold treeAt
      rw [eg]
      simp only
      rw [if_neg (by omega), if_neg (fun q => by have := isDig_iff.mp q; omega), ew, if_pos (by omega), es, ← hx, hxl]
  | ch a b c d iha ihb ihc ihd =>
    intro r pre post hf hd hz hp
    obtain ⟨r, rfl⟩ : ∃ q, r = q + 1 := ⟨r - 1, by simp only [Tr.deep] at hd; omega⟩
    obtain ⟨fa, fb, fc, fd⟩ := hf
    have dd : a.deep ≤ r ∧ b.deep ≤ r ∧ c.deep ≤ r ∧ d.deep ≤ r := by
      simp only [Tr.deep] at hd
      omega
    rw [codes_ch] at hz ⊢
    have n1 : isLet 61 = false := by decide +kernel
    have n2 : isLet 63 = false := by decide +kernel
    have n3 : isLet 58 = false := by decide +kernel
    have n4 : isLet 41 = false := by decide +kernel
    generalize ha : a.text.cps.toList = ca at *
    generalize hb : b.text.cps.toList = cb at *
    generalize hcc : c.text.cps.toList = cc at *
    generalize hdd : d.text.cps.toList = cd at *
    have z0 : z.cps.toList = pre ++ 40 :: (ca ++ 61 :: (cb ++ 63 :: (cc ++ 58 :: (cd ++ 41 :: post)))) := by
      rw [hz]
      simp
    have z1 : z.cps.toList = (pre ++ [40]) ++ (ca ++ 61 :: (cb ++ 63 :: (cc ++ 58 :: (cd ++ 41 :: post)))) := by rw [z0]; simp
    have z1' : z.cps.toList = (pre ++ [40] ++ ca) ++ 61 :: (cb ++ 63 :: (cc ++ 58 :: (cd ++ 41 :: post))) := by rw [z0]; simp
    have z2 : z.cps.toList = (pre ++ [40] ++ ca ++ [61]) ++ (cb ++ 63 :: (cc ++ 58 :: (cd ++ 41 :: post))) := by rw [z0]; simp
    have z2' : z.cps.toList = (pre ++ [40] ++ ca ++ [61] ++ cb) ++ 63 :: (cc ++ 58 :: (cd ++ 41 :: post)) := by rw [z0]; simp
    have z3 : z.cps.toList = (pre ++ [40] ++ ca ++ [61] ++ cb ++ [63]) ++ (cc ++ 58 :: (cd ++ 41 :: post)) := by rw [z0]; simp
    have z3' : z.cps.toList = (pre ++ [40] ++ ca ++ [61] ++ cb ++ [63] ++ cc) ++ 58 :: (cd ++ 41 :: post) := by rw [z0]; simp
    have z4 : z.cps.toList = (pre ++ [40] ++ ca ++ [61] ++ cb ++ [63] ++ cc ++ [58]) ++ (cd ++ 41 :: post) := by rw [z0]; simp
    have z4' : z.cps.toList = (pre ++ [40] ++ ca ++ [61] ++ cb ++ [63] ++ cc ++ [58] ++ cd) ++ 41 :: post := by rw [z0]; simp
    have g0 : z.cps.toList[pre.length]? = some 40 := by rw [z0]; exact get_mid
    have g1 : z.cps.toList[(pre ++ [40] ++ ca).length]? = some 61 := by rw [z1']; exact get_mid
    have g2 : z.cps.toList[(pre ++ [40] ++ ca ++ [61] ++ cb).length]? = some 63 := by rw [z2']; exact get_mid
    have g3 : z.cps.toList[(pre ++ [40] ++ ca ++ [61] ++ cb ++ [63] ++ cc).length]? = some 58 := by rw [z3']; exact get_mid
    have g4 : z.cps.toList[(pre ++ [40] ++ ca ++ [61] ++ cb ++ [63] ++ cc ++ [58] ++ cd).length]? = some 41 := by rw [z4']; exact get_mid
    have t1 := iha r (pre ++ [40]) _ fa dd.1 z1 (noLet_cons n1)
    have t2 := ihb r (pre ++ [40] ++ ca ++ [61]) _ fb dd.2.1 z2 (noLet_cons n2)
    have t3 := ihc r (pre ++ [40] ++ ca ++ [61] ++ cb ++ [63]) _ fc dd.2.2.1 z3 (noLet_cons n3)
    have t4 := ihd r (pre ++ [40] ++ ca ++ [61] ++ cb ++ [63] ++ cc ++ [58]) _ fd dd.2.2.2 z4 (noLet_cons n4)
    have l0 : (pre ++ [40]).length = pre.length + 1 := by simp
    simp only [List.length_append, List.length_cons, List.length_nil, Nat.zero_add] at t1 t2 t3 t4 g1 g2 g3 g4
    unfold treeAt
    rw [g0]
    simp only
    rw [if_pos trivial]
    unfold choiceAt
    have P : partsAt (treeAt z r) z.cps.toList [40, 61, 63, 58] pre.length = some ([a, b, c, d], pre.length + 1 + ca.length + 1 + cb.length + 1 + cc.length + 1 + cd.length) := by
      simp only [partsAt]
      rw [if_pos g0, t1]
      simp only
      rw [if_pos g1, t2]
      simp only
      rw [if_pos g2, t3]
      simp only
      rw [if_pos g3, t4]
    rw [P]
    simp only
    rw [if_pos g4]
    simp only [List.length_append, List.length_cons, List.length_nil, Option.some.injEq, Prod.mk.injEq, true_and]
    omega
theorem treeOf_text {t : Tr} (hf : t.fine) (hd : t.deep ≤ 3) : treeOf t.text = some t := by
  have h := treeAt_text t.text t 3 [] [] hf hd (by simp) (fun c e => by simp at e)
  unfold treeOf
  simp only [List.length_nil, Nat.zero_add] at h
  rw [h]
  simp only
  rw [if_pos (len_codes _)]
theorem text_inj {t u : Tr} (hf : t.fine) (hd : t.deep ≤ 3) (gf : u.fine) (gd : u.deep ≤ 3) (h : t.text = u.text) : t = u := by
  have h1 := treeOf_text hf hd
  rw [h, treeOf_text gf gd] at h1
  exact (Option.some.inj h1).symm
end TS
namespace TS
open PySem L2
def top (i : Nat) : Stmt := PySem.Challenge.pw_tiedsteps_k02_texts_that_are_no_terms.main.body.getD i (.Pass ⟨0, 0, 0, 0⟩)
abbrev sIsNum : Stmt := top 8
abbrev sAsc : Stmt := top 9
abbrev sText : Stmt := top 21
abbrev sDepth : Stmt := top 22
abbrev sKind : Stmt := top 23
abbrev sLeaves : Stmt := top 24
section
variable {P : Program} {w : World} {K : PySem.W.Frag} {mg : Str → Option Value} {base : Heap}
theorem bIsi : bootBuiltins "isinstance" = some (.builtin "isinstance") := by decide +kernel
/-! the kinds of a tree's value -/
theorem isT {H : Hp} {v : V} {t : Tr} (h : TrAt H v t) : ∃ (u : Value) (b : Bool), TyX K H v u ∧ PySem.W.kitOne K u (.type "tuple") = some b ∧ ((b = true ∧ ∃ a c d e, t = .ch a c d e) ∨ (b = false ∧ ((∃ n, v = .int n ∧ t = .num n) ∨ ∃ x, v = .str x ∧ t = .wd x))) := by
  cases h with
  | num n => exact ⟨_, false, .base (.int n), kit_ty (by decide +kernel), .inr ⟨rfl, .inl ⟨n, rfl, rfl⟩⟩⟩
  | wd x => exact ⟨_, false, .base (.str x), kit_ty (by decide +kernel), .inr ⟨rfl, .inr ⟨x, rfl, rfl⟩⟩⟩
  | ch h _ _ _ _ => exact ⟨_, true, .base (.tup h), kit_ty (by decide +kernel), .inl ⟨rfl, _, _, _, _, rfl⟩⟩
structure BltT (mg : Str → Option Value) : Prop where
  isi : mg "isinstance" = none
  tup : mg "tuple" = none
  str : mg "str" = none
  int : mg "int" = none
  bool : mg "bool" = none
  max : mg "max" = none
  set : mg "set" = none
  sorted : mg "sorted" = none
  len : mg "len" = none
  any : mg "any" = none
/-! _text_of -/
abbrev nmText : List Str := ["tree", "one", "other", "same", "unlike", "part"]
theorem scText : FnScope nmText ["tree"] (defScope sText) := ⟨rfl, rfl, rfl, by decide +kernel, rfl, by decide +kernel, by decide +kernel⟩
def spText (n : Nat) : Sp := fun vs H Q _ => ∃ (v : V) (t : Tr), vs = [v] ∧ TrAt H v t ∧ t.small ∧ t.deep ≤ n ∧ t.text.length ≤ 100000 ∧ ∀ H', Same H H' → Q (.str t.text) H'
theorem none_text {f : Addr} {fd : FuncData} : FnOk P w K mg base CX0 0 f fd ["tree"] (spText 0) := by
  have no : ∀ vs H Q E, ¬ spText 0 vs H Q E := fun vs H Q E h => by
    obtain ⟨v, t, _, _, _, hd, _⟩ := h
    have z := t.deep_pos
    omega
  exact ⟨fun vs H Q E h => absurd h (no vs H Q E), fun A outer s H args us vs Q E _ _ _ _ h => absurd h (no vs H Q E)⟩
theorem text_len {a b c d : Tr} (h : (Tr.ch a b c d).text.length ≤ 100000) : a.text.length + b.text.length + c.text.length + d.text.length + 5 ≤ 100000 := by
  simp only [Tr.text, Str.length_append] at h
  have e1 : Str.empty.length = 0 := by decide +kernel
  have e2 : ("(" : Str).length = 1 := by decide +kernel
  have e3 : ("=" : Str).length = 1 := by decide +kernel
  have e4 : ("?" : Str).length = 1 := by decide +kernel
  have e5 : (":" : Str).length = 1 := by decide +kernel
  have e6 : (")" : Str).length = 1 := by decide +kernel
  omega
theorem ok_text {n : Nat} {f : Addr} {fd : FuncData} (F : Fun K "_text_of" "_text_of" sText f fd) (T : BltT mg) (b : Binds K fd ["tree"] []) (m : mg "_text_of" = some (.ref f)) (G : FnOk P w K mg base CX0 n f fd ["tree"] (spText n)) :
    FnOk P w K mg base CX0 (n + 1) f fd ["tree"] (spText (n + 1)) := by
  refine F.ok scText (fun vs H Q E h => ?_) (fun cdv A outer s H vs Q E hr h => ?_)
  · obtain ⟨v, t, rfl, _⟩ := h
    rfl
  obtain ⟨v, t, rfl, ht, hsm, hd, hlen, q⟩ := h
  refine ⟨_, pss_cons (ps_if (pt_not (pt_val (pe_callB call_isi (by rfl) T.isi bIsi (pa_cons (pv 0) (pa_cons (pe_bltn (by rfl) T.tup (v := .ty "tuple") (by decide +kernel) rfl) pa_nil)))))
      (pss_one (ps_ret (pe_callTy (cr_or call_str_int SkE.call_str_str) (by rfl) T.str (by decide +kernel) (pa_cons (pv 0) pa_nil)))) pss_nil)
    (pss_cons (ps_asg (pe_lc (own := [("part", 5)]) (g := gName 5) (tt := tYes) (by rfl) scText.nd (pi_tup (pv 0)) (blkOk_by (own := [("part", 5)]) (N := nmText) (sc := defScope sText) (by decide +kernel)) (fun _ _ _ _ _ => pg_name (i := 5) scText.nd rfl (Or.inl rfl)) (fun _ _ _ _ _ => pts_nil)
        (fun _ _ _ _ _ => pe_call G hr rfl m F.kp b .nil pass0 (pa_cons (pv 5) pa_nil)))
      (pg_lst (by rfl) (pgs_cons (pg_name (i := 1) scText.nd rfl (.inl rfl)) (pgs_cons (pg_name (i := 2) scText.nd rfl (.inl rfl)) (pgs_cons (pg_name (i := 3) scText.nd rfl (.inl rfl)) (pgs_cons (pg_name (i := 4) scText.nd rfl (.inl rfl)) pgs_nil))))))
    (pss_one (ps_ret (pe_joined (.cons pe_str (.cons (pe_fmt (pv 1)) (.cons pe_str (.cons (pe_fmt (pv 2)) (.cons pe_str (.cons (pe_fmt (pv 3)) (.cons pe_str (.cons (pe_fmt (pv 4)) (.cons pe_str .nil))))))))))))), ?_⟩
  obtain ⟨u, c, hty, hk, hc⟩ := isT (K := K) ht
  refine ⟨_, rfl, _, _, _, _, _, rfl, .ty "tuple", hty, hk, _, rfl, ?_⟩
  rcases hc with ⟨rfl, a, b', c, d, rfl⟩ | ⟨rfl, hc⟩
  · refine iteF ?_
    cases ht with
    | ch hp ha hb hc hdd =>
      rename_i p y0 y1 y2 y3
      have tl := text_len hlen
      have dd : a.deep ≤ n ∧ b'.deep ≤ n ∧ c.deep ≤ n ∧ d.deep ≤ n := by
        simp only [Tr.deep] at hd
        omega
      obtain ⟨s1, s2, s3, s4⟩ := hsm
      refine ⟨_, rfl, p, rfl, ⟨_, SqT.of hp⟩, fun D hD => lc_mapT (ys := [.str a.text, .str b'.text, .str c.text, .str d.text]) hp rfl (by show 4 ≤ 1000; decide) hD (fun _ => rfl) (fun i x y H1 R hx hy s1' hR => ?_) (fun H1 g1 hD1 => ?_)⟩
      · refine ⟨_, rfl, ?_⟩
        rcases i with _ | _ | _ | _ | i
        · cases hx
          cases hy
          exact ⟨_, a, rfl, ha.same s1', s1, dd.1, by omega, hR⟩
        · cases hx
          cases hy
          exact ⟨_, b', rfl, hb.same s1', s2, dd.2.1, by omega, hR⟩
        · cases hx
          cases hy
          exact ⟨_, c, rfl, hc.same s1', s3, dd.2.2.1, by omega, hR⟩
        · cases hx
          cases hy
          exact ⟨_, d, rfl, hdd.same s1', s4, dd.2.2.2, by omega, hR⟩
        · simp at hx
      · have e1 : Str.empty.length = 0 := by decide +kernel
        have e2 : ("(" : Str).length = 1 := by decide +kernel
        have e3 : ("=" : Str).length = 1 := by decide +kernel
        have e4 : ("?" : Str).length = 1 := by decide +kernel
        have e5 : (":" : Str).length = 1 := by decide +kernel
        have e6 : (")" : Str).length = 1 := by decide +kernel
        have big : 100000 ≤ sizeLine := by decide
        refine ⟨D, _, rfl, SqL.of hD1, rfl, ?_⟩
        have L : ∀ {x y : Str}, x.length + y.length ≤ 100000 → (x ++ y).length ≤ sizeLine := fun {x y} h => by
          rw [Str.length_append]
          exact Nat.le_trans h big
        refine ⟨_, _, rfl, _, _, rfl, _, _, rfl, _, _, rfl, rfl, ?_⟩
        refine ⟨_, rfl, L (by omega), _, rfl, .inl ⟨_, rfl, by omega, _, rfl, L (by simp only [Str.length_append]; omega), ?_⟩⟩
        refine ⟨_, rfl, L (by simp only [Str.length_append]; omega), _, rfl, .inl ⟨_, rfl, by omega, _, rfl, L (by simp only [Str.length_append]; omega), ?_⟩⟩
        refine ⟨_, rfl, L (by simp only [Str.length_append]; omega), _, rfl, .inl ⟨_, rfl, by omega, _, rfl, L (by simp only [Str.length_append]; omega), ?_⟩⟩
        refine ⟨_, rfl, L (by simp only [Str.length_append]; omega), _, rfl, .inl ⟨_, rfl, by omega, _, rfl, L (by simp only [Str.length_append]; omega), ?_⟩⟩
        refine ⟨_, rfl, L (by simp only [Str.length_append]; omega), ?_⟩
        exact q H1 g1
  · refine iteT ?_
    rcases hc with ⟨k, rfl, rfl⟩ | ⟨x, rfl, rfl⟩
    · refine ⟨_, rfl, .inl ⟨k, rfl, ?_, q H (Same.refl H)⟩⟩
      have z : k.natAbs ≤ 9 := by
        have := hsm.1
        have := hsm.2
        omega
      exact Nat.lt_of_le_of_lt (Nat.log2_le_self _) (by omega)
    · exact ⟨_, rfl, .inr ⟨x, rfl, q H (Same.refl H)⟩⟩
end
end TS
namespace TS
open PySem L2
/-- [y for x in tuple for y in f(x)], f(x) a new list -/
theorem lc_flatT {K : PySem.W.Frag} {p D : Addr} {xs : List V} {zs : List (List V)} {k k1 : Nat} {te1 : TE} {σ : St} {H : Hp} {Qd : Hp → Prop} (hp : H p = some (.tup xs)) (hl : zs.length = xs.length) (h6 : zs.flatten.length ≤ 1000) (hD : H D = none)
    (hw : ∀ v, wipe ((wipe σ [k, k1]).set k v) [k, k1] = wipe σ [k, k1])
    (hw1 : ∀ v u, wipe ((wipe ((wipe σ [k, k1]).set k v) [k1]).set k1 u) [k1] = wipe ((wipe σ [k, k1]).set k v) [k1])
    (hat : ∀ v u, ((wipe ((wipe σ [k, k1]).set k v) [k1]).set k1 (some u))[k1]? = some (some u))
    (step : ∀ (i : Nat) (x : V) (z : List V) (H1 : Hp) (R : VK), xs[i]? = some x → zs[i]? = some z → Same H H1 → (∀ (r : Addr) H2, Same H1 H2 → H1 r = none → H2 r = some (.lst z) → R (.ref r) H2) → te1 ((wipe σ [k, k1]).set k (some x)) H1 R)
    (hd : ∀ H1, Same H H1 → H1 D = some (.lst zs.flatten) → Qd H1) :
    ∃ W : Nat → Nat → Hp → Prop, (∃ m, W 0 m (upd H D (.lst []))) ∧ ∀ i m H, W i m H →
  ((Itt K p).stop i H ∧ Qd H) ∨ ((Itt K p).go i H ∧ ∃ Nx : Hp → Prop, (∀ H', Nx H' → ∃ m', m' < m ∧ W (i + 1) m' H') ∧ ∀ x H', (Itt K p).yld i H x H' → gName k x (wipe σ [k, k1]) H' fun σ2 H2 => wipe σ2 [k, k1] = wipe σ [k, k1] ∧ tYes σ2 H2 fun b H3 =>
    if b = true then iList K te1 σ2 H3 fun J1 H4 => ∃ W1 : Nat → Nat → Hp → Prop, (∃ m, W1 0 m H4) ∧ ∀ j k2 H, W1 j k2 H →
      (J1.stop j H ∧ Nx H) ∨ (J1.go j H ∧ ∃ Nx1 : Hp → Prop, (∀ H', Nx1 H' → ∃ k', k' < k2 ∧ W1 (j + 1) k' H') ∧ ∀ x H', J1.yld j H x H' → gName k1 x (wipe σ2 [k1]) H' fun σ3 H5 => wipe σ3 [k1] = wipe σ2 [k1] ∧ tYes σ3 H5 fun b H6 =>
        if b = true then tVar k1 σ3 H6 fun y H7 => ∃ acc, H7 D = some (.lst acc) ∧ acc.length < sizeLine ∧ Nx1 (upd H7 D (.lst (acc ++ [y]))) else Nx1 H6)
    else Nx H3) := by
  refine ⟨fun i m H1 => m = xs.length - i ∧ i ≤ xs.length ∧ Same H H1 ∧ H1 D = some (.lst (zs.take i).flatten), ⟨xs.length, by simp, Nat.zero_le _, same_upd hD _, by rw [upd_same]; rfl⟩, ?_⟩
  rintro i m H1 ⟨rfl, hi, s1, d1⟩
  have q : SqT K H1 p xs := SqT.of (s1 _ _ hp)
  by_cases hlt : i < xs.length
  · refine .inr ⟨⟨xs, xs[i], q, by simp [hlt]⟩, fun H' => Same H H' ∧ H' D = some (.lst (zs.take (i + 1)).flatten), fun H' p' => ⟨xs.length - (i + 1), by omega, rfl, hlt, p'⟩, fun x H' y => ?_⟩
    obtain ⟨e, y⟩ := y
    subst e
    have hx := y xs q
    have hz : zs[i]? = some zs[i] := List.getElem?_eq_getElem (by omega)
    have tk : (zs.take (i + 1)).flatten = (zs.take i).flatten ++ zs[i] := by
      have e : zs.take (i + 1) = zs.take i ++ [zs[i]] := by
        rw [List.take_succ, hz]
        rfl
      rw [e, List.flatten_append]
      simp only [List.flatten_cons, List.flatten_nil, List.append_nil]
    have ln : (zs.take i).flatten.length + zs[i].length ≤ 1000 := by
      rw [← List.length_append, ← tk]
      refine Nat.le_trans ?_ h6
      have e : zs = zs.take (i + 1) ++ zs.drop (i + 1) := (List.take_append_drop _ _).symm
      conv => rhs; rw [e, List.flatten_append, List.length_append]
      exact Nat.le_add_right _ _
    generalize zs[i] = z at hz tk ln
    refine ⟨hw _, ?_⟩
    unfold tYes
    dsimp only
    rw [if_pos rfl]
    refine step i x z _ _ hx hz s1 fun r H2 s2 hr h2 => ?_
    have rD : r ≠ D := (ne_of_none d1 hr).symm
    refine ⟨r, rfl, ⟨_, SqL.of h2⟩, fun j m H5 => m = z.length - j ∧ j ≤ z.length ∧ Same H H5 ∧ H5 r = some (.lst z) ∧ H5 D = some (.lst ((zs.take i).flatten ++ z.take j)), ⟨z.length, by simp, Nat.zero_le _, s1.trans s2, h2, by rw [List.take_zero, List.append_nil]; exact s2 _ _ d1⟩, ?_⟩
    rintro j m H5 ⟨rfl, hj, s5, r5, d5⟩
    have q5 : SqL K H5 r z := SqL.of r5
    by_cases hlj : j < z.length
    · refine .inr ⟨⟨z, z[j], q5, by simp [hlj]⟩, fun H6 => Same H H6 ∧ H6 r = some (.lst z) ∧ H6 D = some (.lst ((zs.take i).flatten ++ z.take (j + 1))), fun H6 p6 => ⟨z.length - (j + 1), by omega, rfl, hlj, p6.1, p6.2.1, p6.2.2⟩, fun u H6 y6 => ?_⟩
      obtain ⟨e6, y6⟩ := y6
      subst e6
      have hu := y6 z q5
      refine ⟨hw1 _ _, iteT ⟨u, hat _ _, _, d5, ?_, ?_⟩⟩
      · rw [List.length_append, List.length_take]
        exact small1000 (by omega)
      · refine ⟨fun b o qb => ?_, ?_, ?_⟩
        · rw [upd_ne (ne_of_none qb hD)]
          exact s5 _ _ qb
        · rw [upd_ne rD]
          exact r5
        · rw [upd_same, List.take_succ, hu, List.append_assoc]
          rfl
    · have e : j = z.length := by omega
      subst e
      refine .inl ⟨⟨z, q5, Nat.le_refl _⟩, s5, ?_⟩
      rw [tk]
      rw [List.take_length] at d5
      exact d5
  · have e : i = xs.length := by omega
    subst e
    refine .inl ⟨⟨xs, q, Nat.le_refl _⟩, hd H1 s1 ?_⟩
    rw [List.take_of_length_le (by omega)] at d1
    exact d1
end TS
namespace TS
open PySem L2
/-! sorted texts and numbers are told by what is in them; the words and numbers of a tree; a Term in the heap -/
open PySem.Spec PyProof.Rows in
theorem sortedS_pair : ∀ l : List Str, sortedS l = true → l.Pairwise fun a b => a.cps.toList ≤ b.cps.toList := by
  have step : ∀ (l : List Str) (p : Str), risingS p l = true → (p :: l).Pairwise fun a b => a.cps.toList ≤ b.cps.toList := by
    intro l
    induction l with
    | nil => exact fun p _ => List.pairwise_singleton _ _
    | cons x r ih =>
      intro p h
      have h' : (!ltCps x.cps.toList p.cps.toList && risingS x r) = true := h
      rw [Bool.and_eq_true, Bool.not_eq_true', ltCps_eq] at h'
      have hx := ih x h'.2
      have hp : p.cps.toList ≤ x.cps.toList := List.not_lt.mp (of_decide_eq_false h'.1)
      refine List.pairwise_cons.mpr ⟨fun y hy => ?_, hx⟩
      rcases List.mem_cons.mp hy with rfl | hy
      · exact hp
      · exact List.le_trans hp ((List.pairwise_cons.mp hx).1 y hy)
  intro l h
  cases l with
  | nil => exact List.Pairwise.nil
  | cons x r => exact step r x h
theorem sortedS_same {a b : List Str} (hp : a.Perm b) (ha : PyProof.Rows.sortedS a = true) (hb : PyProof.Rows.sortedS b = true) : a = b :=
  List.Perm.eq_of_pairwise (fun x y _ _ h1 h2 => str_ext (List.le_antisymm h1 h2)) (sortedS_pair a ha) (sortedS_pair b hb) hp
theorem sortedI_same {a b : List Int} (hp : a.Perm b) (ha : a.Pairwise (· ≤ ·)) (hb : b.Pairwise (· ≤ ·)) : a = b :=
  List.Perm.eq_of_pairwise (fun x y _ _ h1 h2 => Int.le_antisymm h1 h2) ha hb hp
def Tr.words : Tr → List Str
  | .num _ => []
  | .wd x => [x]
  | .ch a b c d => a.words ++ (b.words ++ (c.words ++ (d.words ++ [])))
def Tr.nums : Tr → List Int
  | .num n => [n]
  | .wd _ => []
  | .ch a b c d => a.nums ++ (b.nums ++ (c.nums ++ (d.nums ++ [])))
def isS : V → Bool
  | .str _ => true
  | _ => false
theorem leaves_words : ∀ t : Tr, t.leaves.filter isS = t.words.map V.str
  | .num _ => rfl
  | .wd _ => rfl
  | .ch a b c d => by
    simp only [Tr.leaves, Tr.words, List.filter_append, List.map_append, leaves_words a, leaves_words b, leaves_words c, leaves_words d, List.filter_nil, List.map_nil]
theorem leaves_nums : ∀ t : Tr, t.leaves.filter (fun v => !isS v) = t.nums.map V.int
  | .num _ => rfl
  | .wd _ => rfl
  | .ch a b c d => by
    simp only [Tr.leaves, Tr.nums, List.filter_append, List.map_append, leaves_nums a, leaves_nums b, leaves_nums c, leaves_nums d, List.filter_nil, List.map_nil]
theorem leaves_kind : ∀ (t : Tr) (v : V), v ∈ t.leaves → (∃ x, v = .str x) ∨ ∃ n, v = .int n
  | .num n, v, h => .inr ⟨n, by simpa [Tr.leaves] using h⟩
  | .wd x, v, h => .inl ⟨x, by simpa [Tr.leaves] using h⟩
  | .ch a b c d, v, h => by
    simp only [Tr.leaves, List.mem_append, List.not_mem_nil, or_false] at h
    rcases h with h | h | h | h
    · exact leaves_kind a v h
    · exact leaves_kind b v h
    · exact leaves_kind c v h
    · exact leaves_kind d v h
theorem leaves_len : ∀ (t : Tr) (n : Nat), t.deep ≤ n + 1 → t.leaves.length ≤ 4 ^ n
  | .num _, n, _ => Nat.one_le_pow _ _ (by decide)
  | .wd _, n, _ => Nat.one_le_pow _ _ (by decide)
  | .ch a b c d, n, h => by
    simp only [Tr.deep] at h
    have z := a.deep_pos
    obtain ⟨n, rfl⟩ : ∃ m, n = m + 1 := ⟨n - 1, by omega⟩
    have h1 := leaves_len a n (by omega)
    have h2 := leaves_len b n (by omega)
    have h3 := leaves_len c n (by omega)
    have h4 := leaves_len d n (by omega)
    have e : 4 ^ (n + 1) = 4 * 4 ^ n := by rw [Nat.pow_succ, Nat.mul_comm]
    simp only [Tr.leaves, List.length_append, List.length_nil]
    omega
theorem leaves16 {t : Tr} (h : t.deep ≤ 3) : t.leaves.length ≤ 16 := leaves_len t 2 h
theorem text_len8 : ∀ {t : Tr} (n : Nat), t.fine → t.deep ≤ n + 1 → t.text.length ≤ 10 * 4 ^ n * 2 - 5
  | .num k, n, hf, _ => by
    have e : ((toString k : String) : Str).cps.toList.length = 1 := by rw [codes_digit hf.1 hf.2]; rfl
    have e' : (Tr.num k).text.length = 1 := by rw [← len_codes]; exact e
    have := Nat.one_le_pow n 4 (by decide)
    omega
  | .wd x, n, hf, _ => by
    have := Nat.one_le_pow n 4 (by decide)
    have h8 := hf.2.1
    show x.length ≤ _
    omega
  | .ch a b c d, n, hf, h => by
    simp only [Tr.deep] at h
    have z := a.deep_pos
    obtain ⟨n, rfl⟩ : ∃ m, n = m + 1 := ⟨n - 1, by omega⟩
    obtain ⟨fa, fb, fc, fd⟩ := hf
    have h1 := text_len8 n fa (by omega)
    have h2 := text_len8 n fb (by omega)
    have h3 := text_len8 n fc (by omega)
    have h4 := text_len8 n fd (by omega)
    have e : 4 ^ (n + 1) = 4 * 4 ^ n := by rw [Nat.pow_succ, Nat.mul_comm]
    have p := Nat.one_le_pow n 4 (by decide)
    have l : (Tr.ch a b c d).text.length = a.text.length + b.text.length + c.text.length + d.text.length + 5 := by
      rw [← len_codes, codes_ch]
      simp only [List.length_cons, List.length_append, List.length_nil, len_codes]
      omega
    omega
theorem text315 {t : Tr} (hf : t.fine) (h : t.deep ≤ 3) : t.text.length ≤ 315 := text_len8 2 hf h
/-- a Term's attributes, in the order in which they are stored -/
def tfs (v : V) (x : Str) (d : Nat) (k : Str) (l q r : Addr) : List (Str × V) :=
  putF "_constants" (.ref r) (putF "_variables" (.ref q) (putF "_leaves" (.ref l) (putF "_kind" (.str k) (putF "_depth" (.int d) (putF "_text" (.str x) (putF "_tree" v []))))))
section
variable (v : V) (x : Str) (d : Nat) (k : Str) (l q r : Addr)
theorem tfs_tree : (tfs v x d k l q r).lookup ("_tree" : Str) = some v := by
  unfold tfs
  rw [lookup_putF, if_neg (by decide +kernel), lookup_putF, if_neg (by decide +kernel), lookup_putF, if_neg (by decide +kernel), lookup_putF, if_neg (by decide +kernel), lookup_putF, if_neg (by decide +kernel), lookup_putF, if_neg (by decide +kernel), lookup_putF, if_pos rfl]
theorem tfs_text : (tfs v x d k l q r).lookup ("_text" : Str) = some (.str x) := by
  unfold tfs
  rw [lookup_putF, if_neg (by decide +kernel), lookup_putF, if_neg (by decide +kernel), lookup_putF, if_neg (by decide +kernel), lookup_putF, if_neg (by decide +kernel), lookup_putF, if_neg (by decide +kernel), lookup_putF, if_pos rfl]
theorem tfs_depth : (tfs v x d k l q r).lookup ("_depth" : Str) = some (.int d) := by
  unfold tfs
  rw [lookup_putF, if_neg (by decide +kernel), lookup_putF, if_neg (by decide +kernel), lookup_putF, if_neg (by decide +kernel), lookup_putF, if_neg (by decide +kernel), lookup_putF, if_pos rfl]
theorem tfs_kind : (tfs v x d k l q r).lookup ("_kind" : Str) = some (.str k) := by
  unfold tfs
  rw [lookup_putF, if_neg (by decide +kernel), lookup_putF, if_neg (by decide +kernel), lookup_putF, if_neg (by decide +kernel), lookup_putF, if_pos rfl]
theorem tfs_leaves : (tfs v x d k l q r).lookup ("_leaves" : Str) = some (.ref l) := by
  unfold tfs
  rw [lookup_putF, if_neg (by decide +kernel), lookup_putF, if_neg (by decide +kernel), lookup_putF, if_pos rfl]
theorem tfs_vars : (tfs v x d k l q r).lookup ("_variables" : Str) = some (.ref q) := by
  unfold tfs
  rw [lookup_putF, if_neg (by decide +kernel), lookup_putF, if_pos rfl]
theorem tfs_cons : (tfs v x d k l q r).lookup ("_constants" : Str) = some (.ref r) := by
  unfold tfs
  rw [lookup_putF, if_pos rfl]
/-- a name that is none of its attributes -/
def noFld (m : Str) : Bool := !(decide (m = "_constants") || decide (m = "_variables") || decide (m = "_leaves") || decide (m = "_kind") || decide (m = "_depth") || decide (m = "_text") || decide (m = "_tree"))
theorem tfs_no {m : Str} (h : noFld m = true) : (tfs v x d k l q r).lookup m = none := by
  unfold noFld at h
  simp only [Bool.not_eq_true', Bool.or_eq_false_iff, decide_eq_false_iff_not] at h
  obtain ⟨⟨⟨⟨⟨⟨h1, h2⟩, h3⟩, h4⟩, h5⟩, h6⟩, h7⟩ := h
  unfold tfs
  rw [lookup_putF, if_neg h1, lookup_putF, if_neg h2, lookup_putF, if_neg h3, lookup_putF, if_neg h4, lookup_putF, if_neg h5, lookup_putF, if_neg h6, lookup_putF, if_neg h7]
  rfl
end
/-- the kind of a tree -/
def Tr.kind : Tr → Str
  | .num _ => "constant"
  | .wd _ => "variable"
  | .ch _ _ _ _ => "choice"
/-- a Term of the tree t stands at a -/
structure TermAt (C : Addr) (H : Hp) (a : Addr) (t : Tr) : Prop where
  fine : t.fine
  deep : t.deep ≤ 3
  ob : ∃ (dx : Addr) (v : V) (l q r : Addr) (ws : List Str) (ns : List Int), H a = some (.ins C dx (tfs v t.text t.deep t.kind l q r)) ∧ TrAt H v t ∧ H l = some (.lst t.leaves) ∧ H q = some (.lst (ws.map V.str)) ∧ H r = some (.lst (ns.map V.int)) ∧
    ws.Perm (once t.words) ∧ PyProof.Rows.sortedS ws = true ∧ ns.Perm (once t.nums) ∧ ns.Pairwise (· ≤ ·)
theorem TermAt.same {C : Addr} {H H' : Hp} {a : Addr} {t : Tr} (h : TermAt C H a t) (s : Same H H') : TermAt C H' a t := by
  obtain ⟨f, d, dx, v, l, q, r, ws, ns, h1, h2, h3, h4, h5, h6⟩ := h
  exact ⟨f, d, dx, v, l, q, r, ws, ns, s _ _ h1, h2.same s, s _ _ h3, s _ _ h4, s _ _ h5, h6⟩
/-- all but the object at p stands as before -/
def SameX (p : Addr) (H H' : Hp) : Prop := ∀ b o, H b = some o → b ≠ p → H' b = some o
theorem SameX.refl (p : Addr) (H : Hp) : SameX p H H := fun _ _ h _ => h
theorem SameX.trans {p : Addr} {H H1 H2 : Hp} (a : SameX p H H1) (b : SameX p H1 H2) : SameX p H H2 := fun c o h n => b c o (a c o h n) n
theorem Same.x {p : Addr} {H H' : Hp} (s : Same H H') : SameX p H H' := fun b o h _ => s b o h
/-- all but the objects of Ds stands as before -/
def SameOff (Ds : List Addr) (H H' : Hp) : Prop := ∀ b o, H b = some o → b ∉ Ds → H' b = some o
theorem SameOff.refl (Ds : List Addr) (H : Hp) : SameOff Ds H H := fun _ _ h _ => h
theorem SameOff.trans {Ds : List Addr} {H H1 H2 : Hp} (a : SameOff Ds H H1) (b : SameOff Ds H1 H2) : SameOff Ds H H2 := fun c o h n => b c o (a c o h n) n
theorem Same.off {Ds : List Addr} {H H' : Hp} (s : Same H H') : SameOff Ds H H' := fun b o h _ => s b o h
theorem off_upd {Ds : List Addr} {H H1 : Hp} {D : Addr} {o : HO} (s : SameOff Ds H H1) (h : D ∈ Ds) : SameOff Ds H (upd H1 D o) := fun b u e n => by
  rw [upd_ne (fun q => n (by rw [q]; exact h))]
  exact s b u e n
theorem off_new {Ds : List Addr} {H H1 : Hp} {D : Addr} {o : HO} (s : SameOff Ds H H1) (h : H D = none) : SameOff Ds H (upd H1 D o) := fun b u e n => by
  rw [upd_ne (ne_of_none e h)]
  exact s b u e n
/-- lists stand at all of Ds -/
def Lists (Ds : List Addr) (H : Hp) : Prop := ∀ D ∈ Ds, ∃ xs, H D = some (.lst xs)
theorem TrAt.off {Ds : List Addr} {H H' : Hp} {v : V} {t : Tr} (h : TrAt H v t) (s : SameOff Ds H H') (hl : Lists Ds H) : TrAt H' v t := by
  induction h with
  | num n => exact .num n
  | wd x => exact .wd x
  | ch h _ _ _ _ a b c d => exact .ch (s _ _ h (fun e => by obtain ⟨xs, q⟩ := hl _ e; rw [h] at q; cases q)) a b c d
theorem TrAt.sameX {p : Addr} {H H' : Hp} {v : V} {t : Tr} (h : TrAt H v t) (s : SameX p H H') (hp : ∀ xs, H p ≠ some (.tup xs)) : TrAt H' v t := by
  induction h with
  | num n => exact .num n
  | wd x => exact .wd x
  | ch h _ _ _ _ a b c d => exact .ch (s _ _ h (fun e => hp _ (by rw [← e]; exact h))) a b c d
end TS
namespace TS
open PySem L2
section
variable {P : Program} {w : World} {K : PySem.W.Frag} {mg : Str → Option Value} {base : Heap}
/-! is_number -/
theorem scNum : FnScope ["value"] ["value"] (defScope sIsNum) := ⟨rfl, rfl, rfl, by decide +kernel, rfl, by decide +kernel, by decide +kernel⟩
def spNum (K : PySem.W.Frag) : Sp := fun vs H Q _ => ∃ (v : V) (t : Value) (b c : Bool), vs = [v] ∧ TyX K H v t ∧ PySem.W.kitOne K t (.type "int") = some b ∧ PySem.W.kitOne K t (.type "bool") = some c ∧ Q (.bl (b && !c)) H
theorem ok_num {f : Addr} {fd : FuncData} (F : Fun K "is_number" "is_number" sIsNum f fd) (T : BltT mg) : FnOk P w K mg base CX0 1 f fd ["value"] (spNum K) := by
  refine F.ok scNum (fun vs H Q E h => ?_) (fun cdv A outer s H vs Q E hr h => ?_)
  · obtain ⟨v, t, b, c, rfl, _⟩ := h
    rfl
  obtain ⟨v, t, b, c, rfl, ty, k1, k2, q⟩ := h
  refine ⟨_, pss_one (ps_ret (pe_and (pe_callB call_isi (by rfl) T.isi bIsi (pa_cons (pv 0) (pa_cons (pe_bltn (by rfl) T.int (v := .ty "int") (by decide +kernel) rfl) pa_nil)))
    (pe_one (pe_not (pe_callB call_isi (by rfl) T.isi bIsi (pa_cons (pv 0) (pa_cons (pe_bltn (by rfl) T.bool (v := .ty "bool") (by decide +kernel) rfl) pa_nil))))))), ?_⟩
  refine ⟨_, rfl, _, _, _, _, _, rfl, .ty "int", ty, k1, b, rfl, ?_⟩
  cases b with
  | false => exact iteF q
  | true => exact iteT ⟨_, rfl, _, _, _, _, _, rfl, .ty "bool", ty, k2, c, rfl, q⟩
/-! ascending -/
theorem scAsc : FnScope ["values"] ["values"] (defScope sAsc) := ⟨rfl, rfl, rfl, by decide +kernel, rfl, by decide +kernel, by decide +kernel⟩
def spAsc : Sp := fun vs H Q _ => ∃ (l : Addr) (xs : List V), vs = [V.ref l] ∧ H l = some (.lst xs) ∧ xs.length < 64 ∧
  ((∃ ss : List Str, xs = ss.map V.str ∧ ∀ (r : Addr) (H' : Hp) (out : List Str), Same H H' → H r = none → out.Perm (once ss) → PyProof.Rows.sortedS out = true → H' r = some (.lst (out.map V.str)) → Q (.ref r) H') ∨
   (∃ ns : List Int, xs = ns.map V.int ∧ ∀ (r : Addr) (H' : Hp) (out : List Int), Same H H' → H r = none → out.Perm (once ns) → out.Pairwise (· ≤ ·) → H' r = some (.lst (out.map V.int)) → Q (.ref r) H'))
theorem ok_asc {f : Addr} {fd : FuncData} (F : Fun K "ascending" "ascending" sAsc f fd) (T : BltT mg) : FnOk P w K mg base CX0 1 f fd ["values"] spAsc := by
  refine F.ok scAsc (fun vs H Q E h => ?_) (fun cdv A outer s H vs Q E hr h => ?_)
  · obtain ⟨l, xs, rfl, _⟩ := h
    rfl
  obtain ⟨l, xs, rfl, hl, h64, h⟩ := h
  refine ⟨_, pss_one (ps_ret (pe_callB (cr_sortX (by rfl)) (by rfl) T.sorted (by decide +kernel) (pa_cons (pe_callTy (cr_setL (by rfl)) (by rfl) T.set (by decide +kernel) (pa_cons (pv 0) pa_nil)) pa_nil))), ?_⟩
  refine ⟨_, rfl, l, xs, rfl, .of hl, (by show xs.length + 1 < 4096; omega), ?_⟩
  rcases h with ⟨ss, rfl, q⟩ | ⟨ns, rfl, q⟩
  · refine .inl ⟨ss, rfl, fun p hp => ⟨p, rfl, .inl ⟨once ss, upd_same, Nat.lt_of_le_of_lt (once_len ss) (by simpa using h64), fun out r pm so hr' => ?_⟩⟩⟩
    have g1 : Same H (upd H p (SetS P w p (once ss))) := same_upd hp _
    exact q r _ out (g1.trans (same_upd hr' _)) (g1.free hr') pm so upd_same
  · refine .inr ⟨ns, rfl, fun p hp => ⟨p, rfl, .inr ⟨once ns, upd_same, Nat.lt_of_le_of_lt (once_len ns) (by simpa using h64), fun out r pm so hr' => ?_⟩⟩⟩
    have g1 : Same H (upd H p (SetI P w p (once ns))) := same_upd hp _
    exact q r _ out (g1.trans (same_upd hr' _)) (g1.free hr') pm so upd_same
/-! _depth_of -/
abbrev nmDepth : List Str := ["tree", "part"]
theorem scDepth : FnScope nmDepth ["tree"] (defScope sDepth) := ⟨rfl, rfl, rfl, by decide +kernel, rfl, by decide +kernel, by decide +kernel⟩
def spDepth (n : Nat) : Sp := fun vs H Q _ => ∃ (v : V) (t : Tr), vs = [v] ∧ TrAt H v t ∧ t.deep ≤ n ∧ ∀ H', Same H H' → Q (.int (t.deep : Int)) H'
theorem none_depth {f : Addr} {fd : FuncData} : FnOk P w K mg base CX0 0 f fd ["tree"] (spDepth 0) := by
  have no : ∀ vs H Q E, ¬ spDepth 0 vs H Q E := fun vs H Q E h => by
    obtain ⟨v, t, _, _, hd, _⟩ := h
    have z := t.deep_pos
    omega
  exact ⟨fun vs H Q E h => absurd h (no vs H Q E), fun A outer s H args us vs Q E _ _ _ _ h => absurd h (no vs H Q E)⟩
theorem ok_depth {n : Nat} {f : Addr} {fd : FuncData} (F : Fun K "_depth_of" "_depth_of" sDepth f fd) (T : BltT mg) (b : Binds K fd ["tree"] []) (m : mg "_depth_of" = some (.ref f)) (G : FnOk P w K mg base CX0 n f fd ["tree"] (spDepth n)) :
    FnOk P w K mg base CX0 (n + 1) f fd ["tree"] (spDepth (n + 1)) := by
  refine F.ok scDepth (fun vs H Q E h => ?_) (fun cdv A outer s H vs Q E hr h => ?_)
  · obtain ⟨v, t, rfl, _⟩ := h
    rfl
  obtain ⟨v, t, rfl, ht, hd, q⟩ := h
  refine ⟨_, pss_cons (ps_if (pt_not (pt_val (pe_callB call_isi (by rfl) T.isi bIsi (pa_cons (pv 0) (pa_cons (pe_bltn (by rfl) T.tup (v := .ty "tuple") (by decide +kernel) rfl) pa_nil)))))
      (pss_one (ps_ret pe_int)) pss_nil)
    (pss_one (ps_ret (pe_op op_add pe_int (pe_callB (cr_max (by rfl)) (by rfl) T.max (by decide +kernel) (pa_cons
      (pe_lc (own := [("part", 1)]) (g := gName 1) (tt := tYes) (by rfl) scDepth.nd (pi_tup (pv 0)) (blkOk_by (own := [("part", 1)]) (N := nmDepth) (sc := defScope sDepth) (by decide +kernel)) (fun _ _ _ _ _ => pg_name (i := 1) scDepth.nd rfl (Or.inl rfl)) (fun _ _ _ _ _ => pts_nil)
        (fun _ _ _ _ _ => pe_call G hr rfl m F.kp b .nil pass0 (pa_cons (pv 1) pa_nil))) pa_nil))))), ?_⟩
  obtain ⟨u, c, hty, hk, hc⟩ := isT (K := K) ht
  refine ⟨_, rfl, _, _, _, _, _, rfl, .ty "tuple", hty, hk, _, rfl, ?_⟩
  rcases hc with ⟨rfl, a, b', c, d, rfl⟩ | ⟨rfl, hc⟩
  · refine iteF ?_
    cases ht with
    | ch hp ha hb hc hdd =>
      rename_i p y0 y1 y2 y3
      have dd : a.deep ≤ n ∧ b'.deep ≤ n ∧ c.deep ≤ n ∧ d.deep ≤ n := by
        simp only [Tr.deep] at hd
        omega
      refine ⟨_, rfl, p, rfl, ⟨_, SqT.of hp⟩, fun D hD => lc_mapT (ys := [.int a.deep, .int b'.deep, .int c.deep, .int d.deep]) hp rfl (by show 4 ≤ 1000; decide) hD (fun _ => rfl) (fun i x y H1 R hx hy s1' hR => ?_) (fun H1 g1 hD1 => ?_)⟩
      · refine ⟨_, rfl, ?_⟩
        rcases i with _ | _ | _ | _ | i
        · cases hx
          cases hy
          exact ⟨_, a, rfl, ha.same s1', dd.1, hR⟩
        · cases hx
          cases hy
          exact ⟨_, b', rfl, hb.same s1', dd.2.1, hR⟩
        · cases hx
          cases hy
          exact ⟨_, c, rfl, hc.same s1', dd.2.2.1, hR⟩
        · cases hx
          cases hy
          exact ⟨_, d, rfl, hdd.same s1', dd.2.2.2, hR⟩
        · simp at hx
      · refine ⟨D, [(a.deep : Int), b'.deep, c.deep, d.deep], rfl, SqL.of hD1, by show 0 < 4; decide, fun m hm hy => ?_⟩
        refine ⟨_, _, rfl, rfl, ?_⟩
        have e : (1 : Int) + m = (((Tr.ch a b' c d).deep : Nat) : Int) := by
          simp only [Tr.deep]
          have h1 := hy a.deep (by simp)
          have h2 := hy b'.deep (by simp)
          have h3 := hy c.deep (by simp)
          have h4 := hy d.deep (by simp)
          simp only [List.mem_cons, List.not_mem_nil, or_false] at hm
          omega
        have q1 := q H1 g1
        rw [← e] at q1
        exact q1
  · refine iteT ?_
    have e : (t.deep : Int) = 1 := by
      rcases hc with ⟨k, rfl, rfl⟩ | ⟨x, rfl, rfl⟩ <;> rfl
    rw [← e]
    exact q H (Same.refl H)
/-! _kind_of -/
theorem scKind : FnScope ["tree"] ["tree"] (defScope sKind) := ⟨rfl, rfl, rfl, by decide +kernel, rfl, by decide +kernel, by decide +kernel⟩
def spKind : Sp := fun vs H Q _ => ∃ (v : V) (t : Tr), vs = [v] ∧ TrAt H v t ∧ Q (.str t.kind) H
theorem ok_kind {f : Addr} {fd : FuncData} (F : Fun K "_kind_of" "_kind_of" sKind f fd) (T : BltT mg) : FnOk P w K mg base CX0 1 f fd ["tree"] spKind := by
  refine F.ok scKind (fun vs H Q E h => ?_) (fun cdv A outer s H vs Q E hr h => ?_)
  · obtain ⟨v, t, rfl, _⟩ := h
    rfl
  obtain ⟨v, t, rfl, ht, q⟩ := h
  refine ⟨_, pss_cons (ps_if (pt_val (pe_callB call_isi (by rfl) T.isi bIsi (pa_cons (pv 0) (pa_cons (pe_bltn (by rfl) T.tup (v := .ty "tuple") (by decide +kernel) rfl) pa_nil))))
      (pss_one (ps_ret pe_str)) pss_nil)
    (pss_one (ps_ret (pe_ifExp (pt_val (pe_callB call_isi (by rfl) T.isi bIsi (pa_cons (pv 0) (pa_cons (pe_bltn (by rfl) T.str (v := .ty "str") (by decide +kernel) rfl) pa_nil)))) pe_str pe_str))), ?_⟩
  cases ht with
  | num n => exact ⟨_, rfl, _, _, _, _, _, rfl, .ty "tuple", .base (.int n), kit_ty (b := "tuple") (r := false) (by decide +kernel), _, rfl, iteF ⟨_, rfl, _, _, _, _, _, rfl, .ty "str", .base (.int n), kit_ty (r := false) (by decide +kernel), _, rfl, iteF q⟩⟩
  | wd x => exact ⟨_, rfl, _, _, _, _, _, rfl, .ty "tuple", .base (.str x), kit_ty (r := false) (by decide +kernel), _, rfl, iteF ⟨_, rfl, _, _, _, _, _, rfl, .ty "str", .base (.str x), kit_ty (r := true) (by decide +kernel), _, rfl, iteT q⟩⟩
  | ch h _ _ _ _ => exact ⟨_, rfl, _, _, _, _, _, rfl, .ty "tuple", .base (.tup h), kit_ty (r := true) (by decide +kernel), _, rfl, iteT q⟩
/-! _leaves_of -/
abbrev nmLeaves : List Str := ["tree", "part", "leaf"]
theorem scLeaves : FnScope nmLeaves ["tree"] (defScope sLeaves) := ⟨rfl, rfl, rfl, by decide +kernel, rfl, by decide +kernel, by decide +kernel⟩
def spLeaves (n : Nat) : Sp := fun vs H Q _ => ∃ (v : V) (t : Tr), vs = [v] ∧ TrAt H v t ∧ t.deep ≤ n ∧ t.leaves.length ≤ 1000 ∧ ∀ (r : Addr) (H' : Hp), Same H H' → H r = none → H' r = some (.lst t.leaves) → Q (.ref r) H'
theorem none_leaves {f : Addr} {fd : FuncData} : FnOk P w K mg base CX0 0 f fd ["tree"] (spLeaves 0) := by
  have no : ∀ vs H Q E, ¬ spLeaves 0 vs H Q E := fun vs H Q E h => by
    obtain ⟨v, t, _, _, hd, _⟩ := h
    have z := t.deep_pos
    omega
  exact ⟨fun vs H Q E h => absurd h (no vs H Q E), fun A outer s H args us vs Q E _ _ _ _ h => absurd h (no vs H Q E)⟩
theorem ok_leaves {n : Nat} {f : Addr} {fd : FuncData} (F : Fun K "_leaves_of" "_leaves_of" sLeaves f fd) (T : BltT mg) (b : Binds K fd ["tree"] []) (m : mg "_leaves_of" = some (.ref f)) (G : FnOk P w K mg base CX0 n f fd ["tree"] (spLeaves n)) :
    FnOk P w K mg base CX0 (n + 1) f fd ["tree"] (spLeaves (n + 1)) := by
  refine F.ok scLeaves (fun vs H Q E h => ?_) (fun cdv A outer s H vs Q E hr h => ?_)
  · obtain ⟨v, t, rfl, _⟩ := h
    rfl
  obtain ⟨v, t, rfl, ht, hd, hlen, q⟩ := h
  refine ⟨_, pss_cons (ps_if (pt_not (pt_val (pe_callB call_isi (by rfl) T.isi bIsi (pa_cons (pv 0) (pa_cons (pe_bltn (by rfl) T.tup (v := .ty "tuple") (by decide +kernel) rfl) pa_nil)))))
      (pss_one (ps_ret (pe_lst (pa_cons (pv 0) pa_nil)))) pss_nil)
    (pss_one (ps_ret (pe_lc2 (own := [("part", 1), ("leaf", 2)]) (vs1 := [2]) (g := gName 1) (g1 := gName 2) (tt := tYes) (tt1 := tYes) (te := tVar 2) (wi1 := iList K (tCall (spLeaves n) [] E0 (tCons (tVar 1) tNil))) (by rfl) scLeaves.nd (pi_tup (pv 0)) (blkOk_by (own := [("part", 1), ("leaf", 2)]) (N := nmLeaves) (sc := defScope sLeaves) (by decide +kernel)) (by decide)
        (fun _ _ _ _ _ => pg_name (i := 1) scLeaves.nd rfl (Or.inl rfl)) (fun _ _ _ _ _ => pts_nil)
        (fun _ _ _ _ _ => pi_list (pe_call G hr rfl m F.kp b .nil pass0 (pa_cons (pv 1) pa_nil)))
        (fun _ _ _ _ _ => pg_name (i := 2) scLeaves.nd rfl (Or.inl rfl)) (fun _ _ _ _ _ => pts_nil) (fun _ _ _ _ _ => pv 2)))), ?_⟩
  obtain ⟨u, c, hty, hk, hc⟩ := isT (K := K) ht
  refine ⟨_, rfl, _, _, _, _, _, rfl, .ty "tuple", hty, hk, _, rfl, ?_⟩
  rcases hc with ⟨rfl, a, b', c, d, rfl⟩ | ⟨rfl, hc⟩
  · refine iteF ?_
    cases ht with
    | ch hp ha hb hc hdd =>
      rename_i p y0 y1 y2 y3
      have dd : a.deep ≤ n ∧ b'.deep ≤ n ∧ c.deep ≤ n ∧ d.deep ≤ n := by
        simp only [Tr.deep] at hd
        omega
      have ll : a.leaves.length ≤ 1000 ∧ b'.leaves.length ≤ 1000 ∧ c.leaves.length ≤ 1000 ∧ d.leaves.length ≤ 1000 := by
        simp only [Tr.leaves, List.length_append, List.length_nil] at hlen
        omega
      refine ⟨_, rfl, p, rfl, ⟨_, SqT.of hp⟩, fun D hD => lc_flatT (zs := [a.leaves, b'.leaves, c.leaves, d.leaves]) hp rfl hlen hD (fun _ => rfl) (fun _ _ => rfl) (fun _ _ => rfl) (fun i x y H1 R hx hy s1' hR => ?_) (fun H1 g1 hD1 => q D H1 g1 hD hD1)⟩
      refine ⟨_, rfl, ?_⟩
      rcases i with _ | _ | _ | _ | i
      · cases hx
        cases hy
        exact ⟨_, a, rfl, ha.same s1', dd.1, ll.1, hR⟩
      · cases hx
        cases hy
        exact ⟨_, b', rfl, hb.same s1', dd.2.1, ll.2.1, hR⟩
      · cases hx
        cases hy
        exact ⟨_, c, rfl, hc.same s1', dd.2.2.1, ll.2.2.1, hR⟩
      · cases hx
        cases hy
        exact ⟨_, d, rfl, hdd.same s1', dd.2.2.2, ll.2.2.2, hR⟩
      · simp at hx
  · refine iteT ?_
    refine ⟨_, rfl, (by show 1 ≤ sizeLine; decide), fun r hr' => ?_⟩
    have e : t.leaves = [v] := by
      rcases hc with ⟨k, rfl, rfl⟩ | ⟨x, rfl, rfl⟩ <;> rfl
    refine q r _ (same_upd hr' _) hr' ?_
    rw [upd_same, e]
end
end TS
namespace TS
open PySem L2
abbrev sWord : Stmt := top 15
abbrev sChoice : Stmt := top 16
abbrev sTree : Stmt := top 17
abbrev sTreeText : Stmt := top 18
/-- a loop over a text's signs -/
theorem for_strI {x : Str} {g : TG} {tb : TS} {D : Ends} {σ : St} {H : Hp} (Pv : Nat → St → Hp → Prop) (h0 : Pv 0 σ H)
    (hs : ∀ i c σ H, x.cps.toList[i]? = some c → Pv i σ H → g (.str ⟨#[c]⟩) σ H fun σ2 H2 => tb { D with nx := Pv (i + 1), ct := Pv (i + 1), bk := D.nx } σ2 H2) (hd : ∀ σ H, Pv x.cps.toList.length σ H → D.nx σ H) :
    ∃ W : Nat → Nat → St → Hp → Prop, (∃ m, W 0 m σ H) ∧ ∀ i m σ H, W i m σ H →
      ((Its x).stop i H ∧ D.nx σ H) ∨ ((Its x).go i H ∧ ∃ N : St → Hp → Prop, (∀ σ' H', N σ' H' → ∃ m', m' < m ∧ W (i + 1) m' σ' H') ∧ ∀ y H', (Its x).yld i H y H' → g y σ H' fun σ2 H2 => tb { D with nx := N, ct := N, bk := D.nx } σ2 H2) := by
  have el : x.cps.toList.length = x.cps.size := by simp
  refine ⟨fun i m σ H => m = x.cps.size - i ∧ i ≤ x.cps.size ∧ Pv i σ H, ⟨x.cps.size, by simp, Nat.zero_le _, h0⟩, ?_⟩
  rintro i m σ H ⟨rfl, hi, p⟩
  by_cases hlt : i < x.cps.size
  · refine .inr ⟨hlt, Pv (i + 1), fun σ' H' p' => ⟨x.cps.size - (i + 1), by omega, rfl, hlt, p'⟩, fun v H' y => ?_⟩
    obtain ⟨e, c, hc, ev⟩ := y
    subst e ev
    exact hs i c σ _ (by rw [← hc]; simp) p
  · have e : i = x.cps.size := by omega
    subst e
    exact .inl ⟨Nat.le_refl _, hd σ H (by rw [el]; exact p)⟩
section
variable {P : Program} {w : World} {K : PySem.W.Frag} {mg : Str → Option Value} {base : Heap}
/-- the module's constants -/
structure CstT (mg : Str → Option Value) : Prop where
  letters : ∃ t, mg "LETTERS" = some (.str "abcdefghijklmnopqrstuvwxyz" t)
  digits : ∃ t, mg "DIGITS" = some (.str "0123456789" t)
  signs : ∃ t, mg "PART_SIGNS" = some (.str "(=?:" t)
  most : ∃ t, mg "MOST_LETTERS" = some (.int 8 t)
  deep : ∃ t, mg "MOST_DEPTH" = some (.int 3 t)
/-! _word_end -/
theorem scWord : FnScope ["text", "at", "end"] ["text", "at"] (defScope sWord) := ⟨rfl, rfl, rfl, by decide +kernel, rfl, by decide +kernel, by decide +kernel⟩
def spWord : Sp := fun vs H Q _ => ∃ (z : Str) (i : Nat), vs = [.str z, .int i] ∧ z.length ≤ 100000 ∧ i ≤ z.length ∧ Q (.int (wend z.cps.toList i : Nat)) H
theorem wend_let {cs : List Nat} {i c : Nat} (h : cs[i]? = some c) (hc : isLet c = true) : wend cs i = wend cs (i + 1) := by
  have hi : i < cs.length := (List.getElem?_eq_some_iff.mp h).1
  have hg : cs[i] = c := (List.getElem?_eq_some_iff.mp h).2
  unfold wend
  rw [List.drop_eq_getElem_cons hi, hg, List.takeWhile_cons_of_pos hc, List.length_cons]
  omega
theorem wend_no {cs : List Nat} {i c : Nat} (h : cs[i]? = some c) (hc : isLet c = false) : wend cs i = i := by
  have hi : i < cs.length := (List.getElem?_eq_some_iff.mp h).1
  have hg : cs[i] = c := (List.getElem?_eq_some_iff.mp h).2
  unfold wend
  rw [List.drop_eq_getElem_cons hi, hg, List.takeWhile_cons_of_neg (by simp [hc])]
  rfl
theorem wend_end {cs : List Nat} {i : Nat} (h : cs.length ≤ i) : wend cs i = i := by
  unfold wend
  rw [List.drop_of_length_le h]
  rfl
theorem ok_word {f : Addr} {fd : FuncData} (F : Fun K "_word_end" "_word_end" sWord f fd) (T : BltT mg) (M : CstT mg) : FnOk P w K mg base CX0 1 f fd ["text", "at"] spWord := by
  refine F.ok scWord (fun vs H Q E h => ?_) (fun cdv A outer s H vs Q E hr h => ?_)
  · obtain ⟨z, i, rfl, _⟩ := h
    rfl
  obtain ⟨z, i, rfl, hz, hi, q⟩ := h
  obtain ⟨tl, ml⟩ := M.letters
  refine ⟨_, pss_cons (ps_set (i := 2) scWord.nd rfl (.inl rfl) (pv 1))
    (pss_cons (ps_while PassesOwn.never (PW.pt (pw_and (pt_cmpR op_lt (pv 2) (pe_callB call_len_str (by rfl) T.len PySem.boot_len (pa_cons (pv 0) pa_nil)) (nomark _))
        (pw_and1 (pt_cmpR op_in_sign (pe_ix ix_str (pv 0) (pv 2) (fun _ _ => rfl)) (pe_glob rfl ml (show RelV (.str "abcdefghijklmnopqrstuvwxyz") (.str "abcdefghijklmnopqrstuvwxyz" tl) from ⟨_, rfl⟩)) rfl)))) (pss_one (ps_aug (i := 2) scWord.nd rfl (.inl rfl) pe_int ip_add)))
    (pss_one (ps_ret (pv 2)))), ?_⟩
  have zc : z.cps.toList.length = z.length := len_codes z
  refine ⟨_, rfl, fun m σ' H' => ∃ j : Nat, σ' = [some (.str z), some (.int i), some (.int j)] ∧ H = H' ∧ j ≤ z.length ∧ m = z.length - j ∧ wend z.cps.toList j = wend z.cps.toList i, ⟨z.length - i, i, rfl, rfl, hi, rfl, rfl⟩, ?_⟩
  rintro m σ' H' ⟨j, rfl, rfl, hj, rfl, ew⟩
  have big : z.length ≤ sizeLine := Nat.le_trans hz (by decide)
  refine ⟨_, rfl, _, rfl, z, rfl, big, _, _, rfl, rfl, _, rfl, ?_⟩
  refine ite2 (fun c => ?_) (fun c => ?_)
  · have hlt : j < z.length := by
      have := of_decide_eq_true c
      omega
    obtain ⟨x, hx⟩ : ∃ x, z.cps.toList[j]? = some x := ⟨_, List.getElem?_eq_getElem (by omega)⟩
    refine ⟨_, rfl, _, rfl, z, _, x, rfl, rfl, big, atI_nat hx, x, _, rfl, rfl, _, rfl, ?_⟩
    refine ite2 (fun c1 => ?_) (fun c1 => ?_)
    · refine ⟨fun σ' H' => σ' = [some (.str z), some (.int i), some (.int ((j + 1 : Nat) : Int))] ∧ H = H', ?_, ?_⟩
      · rintro σ2 H2 ⟨rfl, rfl⟩
        exact ⟨z.length - (j + 1), by omega, j + 1, rfl, rfl, hlt, rfl, by rw [← wend_let hx c1]; exact ew⟩
      · exact ⟨_, rfl, _, _, rfl, rfl, rfl, rfl⟩
    · have e : wend z.cps.toList j = j := wend_no hx (by simpa [isLet] using c1)
      rw [← ew, e] at q
      exact ⟨_, rfl, q⟩
  · have hge : z.length ≤ j := by
      have : ¬ ((j : Int) < (z.length : Int)) := fun h => c (decide_eq_true h)
      omega
    have e : wend z.cps.toList j = j := wend_end (by omega)
    rw [← ew, e] at q
    refine iteF ?_
    exact ⟨_, rfl, q⟩
/-! _choice_at and _tree_at -/
/-- what the reader hands back -/
def TreeRes (H : Hp) (o : Option (Tr × Nat)) (Q : VK) : Prop := match o with
  | none => ∀ H', Same H H' → Q .non H'
  | some (t, e) => ∀ (H' : Hp) (p : Addr) (v : V), Same H H' → H p = none → H' p = some (.tup [v, .int e]) → TrAt H' v t → Q (.ref p) H'
def spTree (r : Nat) : Sp := fun vs H Q _ => ∃ (z : Str) (i room : Nat), vs = [.str z, .int i, .int room] ∧ z.length ≤ 100000 ∧ i ≤ 200000 ∧ room ≤ r ∧ TreeRes H (treeAt z room i) Q
def spChoice (r : Nat) : Sp := fun vs H Q _ => ∃ (z : Str) (i room : Nat), vs = [.str z, .int i, .int ((room + 1 : Nat) : Int)] ∧ z.length ≤ 100000 ∧ i ≤ z.length ∧ room + 1 ≤ r ∧ TreeRes H (choiceAt (treeAt z room) z.cps.toList i) Q
theorem none_choice {f : Addr} {fd : FuncData} {k : Nat} : FnOk P w K mg base CX0 k f fd ["text", "at", "room"] (spChoice 0) := by
  have no : ∀ vs H Q E, ¬ spChoice 0 vs H Q E := fun vs H Q E h => by
    obtain ⟨z, i, room, _, _, _, hr, _⟩ := h
    omega
  exact ⟨fun vs H Q E h => absurd h (no vs H Q E), fun A outer s H args us vs Q E _ _ _ _ h => absurd h (no vs H Q E)⟩
theorem scTree : FnScope ["text", "at", "room", "end"] ["text", "at", "room"] (defScope sTree) := ⟨rfl, rfl, rfl, by decide +kernel, rfl, by decide +kernel, by decide +kernel⟩
theorem sign_eq {c : Nat} {y : Str} {d : Nat} (hy : y.cps.toList = [d]) : decide (V.str ⟨#[c]⟩ = V.str y) = decide (c = d) := by
  have h : (V.str ⟨#[c]⟩ = V.str y) ↔ c = d := by
    constructor
    · intro e
      injection e with e
      rw [← e] at hy
      simpa using hy
    · intro e
      rw [e]
      congr 1
      exact str_ext (by rw [hy])
  exact decide_eq_decide.mpr h
theorem treeAt_none {z : Str} {r i : Nat} (h : z.cps.toList.length ≤ i) : treeAt z r i = none := by
  cases r with
  | zero => rfl
  | succ r =>
    unfold treeAt
    rw [List.getElem?_eq_none h]
theorem int_digit {c : Nat} (h : isDig c = true) : PySem.intText? ⟨#[c]⟩ = some ((c : Int) - 48) := by
  have h' := isDig_iff.mp h
  have e : c = 48 ∨ c = 49 ∨ c = 50 ∨ c = 51 ∨ c = 52 ∨ c = 53 ∨ c = 54 ∨ c = 55 ∨ c = 56 ∨ c = 57 := by omega
  rcases e with rfl | rfl | rfl | rfl | rfl | rfl | rfl | rfl | rfl | rfl <;> decide +kernel
theorem wend_le (cs : List Nat) (i : Nat) (h : i ≤ cs.length) : wend cs i ≤ cs.length := by
  unfold wend
  have h1 : ((cs.drop i).takeWhile isLet).length ≤ (cs.drop i).length := (List.takeWhile_sublist _).length_le
  rw [List.length_drop] at h1
  omega
theorem wend_ge (cs : List Nat) (i : Nat) : i ≤ wend cs i := Nat.le_add_right _ _
theorem ok_tree {n r : Nat} {f fw fc : Addr} {fd fdw fdc : FuncData} (F : Fun K "_tree_at" "_tree_at" sTree f fd) (T : BltT mg) (M : CstT mg)
    (FW : Fun K "_word_end" "_word_end" sWord fw fdw) (bw : Binds K fdw ["text", "at"] []) (mw : mg "_word_end" = some (.ref fw)) (FC : Fun K "_choice_at" "_choice_at" sChoice fc fdc) (bc : Binds K fdc ["text", "at", "room"] []) (mc : mg "_choice_at" = some (.ref fc))
    (GC : FnOk P w K mg base CX0 (n + 1) fc fdc ["text", "at", "room"] (spChoice r)) : FnOk P w K mg base CX0 (n + 2) f fd ["text", "at", "room"] (spTree r) := by
  refine F.ok scTree (fun vs H Q E h => ?_) (fun cdv A outer s H vs Q E hr h => ?_)
  · obtain ⟨z, i, room, rfl, _⟩ := h
    rfl
  obtain ⟨z, i, room, rfl, hz, hi, hroom, q⟩ := h
  obtain ⟨td, md⟩ := M.digits
  obtain ⟨tm, mm⟩ := M.most
  have GW : FnOk P w K mg base CX0 1 fw fdw ["text", "at"] spWord := ok_word FW T M
  refine ⟨_, pss_cons (ps_if (PW.pt (pw_or (pt_cmpR op_lt (pv 2) pe_int (nomark _)) (pw_or1 (pt_cmpR op_ge (pv 1) (pe_callB call_len_str (by rfl) T.len PySem.boot_len (pa_cons (pv 0) pa_nil)) (nomark _))))) (pss_one (ps_ret pe_non)) pss_nil)
    (pss_cons (ps_if (pt_cmpR op_eq (pe_ix ix_str (pv 0) (pv 1) (fun _ _ => rfl)) pe_str (nomark _)) (pss_one (ps_ret (pe_call GC hr rfl mc FC.kp bc .nil pass0 (pa_cons (pv 0) (pa_cons (pv 1) (pa_cons (pv 2) pa_nil)))))) pss_nil)
    (pss_cons (ps_if (pt_cmpR op_in_sign (pe_ix ix_str (pv 0) (pv 1) (fun _ _ => rfl)) (pe_glob rfl md (show RelV (.str "0123456789") (.str "0123456789" td) from ⟨_, rfl⟩)) rfl)
      (pss_one (ps_ret (pe_tup (pa_cons (pe_callTy call_int_str (by rfl) T.int (by decide +kernel) (pa_cons (pe_ix ix_str (pv 0) (pv 1) (fun _ _ => rfl)) pa_nil)) (pa_cons (pe_op op_add (pv 1) pe_int) pa_nil))))) pss_nil)
    (pss_cons (ps_set (i := 3) scTree.nd rfl (.inl rfl) (pe_call GW (hr.mono (by omega)) rfl mw FW.kp bw .nil pass0 (pa_cons (pv 0) (pa_cons (pv 1) pa_nil))))
    (pss_cons (ps_if (pt_chain op_le op_le pe_int (pe_op op_sub (pv 3) (pv 1)) (pe_glob rfl mm (show RelV (.int 8) (.int 8 tm) from ⟨_, rfl⟩))) (pss_one (ps_ret (pe_tup (pa_cons (pe_slice sl_str (pv 0) (po_some (pv 1)) (po_some (pv 3))) (pa_cons (pv 3) pa_nil))))) pss_nil)
    (pss_one (ps_ret pe_non)))))), ?_⟩
  have zc : z.cps.toList.length = z.length := len_codes z
  have big : z.length ≤ sizeLine := Nat.le_trans hz (by decide)
  refine ⟨_, rfl, _, _, rfl, rfl, _, rfl, ?_⟩
  cases room with
  | zero =>
    refine iteT ?_
    refine iteT ?_
    exact q H (Same.refl H)
  | succ room =>
    have e0 : decide ((((room + 1 : Nat)) : Int) < 1) = false := decide_eq_false (by omega)
    rw [e0]
    refine iteF ⟨_, rfl, _, rfl, z, rfl, big, _, _, rfl, rfl, _, rfl, ?_⟩
    by_cases hlt : i < z.length
    · rw [show decide ((i : Int) ≥ (z.length : Int)) = false from decide_eq_false (by omega)]
      refine iteF ?_
      obtain ⟨x, hx⟩ : ∃ x, z.cps.toList[i]? = some x := ⟨_, List.getElem?_eq_getElem (by omega)⟩
      have q' := q
      unfold treeAt at q'
      rw [hx] at q'
      simp only at q'
      have ix : ∀ {R : V → Hp → Prop}, R (.str ⟨#[x]⟩) H → (∃ v, some (some (V.str z)) = some (some v) ∧ ∃ v_1, some (some (V.int (i : Int))) = some (some v_1) ∧ rIxS v v_1 H R) := fun h => ⟨_, rfl, _, rfl, z, _, x, rfl, rfl, big, atI_nat hx, h⟩
      refine ix ⟨rfl, _, rfl, ?_⟩
      rw [sign_eq (y := "(") (d := 40) (by decide +kernel)]
      refine ite2 (fun c => ?_) (fun c => ?_)
      · have c := of_decide_eq_true c
        rw [if_pos c] at q'
        exact ⟨_, rfl, _, rfl, _, rfl, z, i, room, rfl, hz, by omega, hroom, q'⟩
      · have c : ¬ x = 40 := fun e => c (decide_eq_true e)
        rw [if_neg c] at q'
        refine ix ⟨x, _, rfl, rfl, _, rfl, ?_⟩
        refine ite2 (fun c1 => ?_) (fun c1 => ?_)
        · have c1 : isDig x = true := c1
          rw [if_pos c1] at q'
          refine ix ⟨_, _, rfl, int_digit c1, by show 1 ≤ 640; decide, _, rfl, _, _, rfl, rfl, by show 2 ≤ sizeLine; decide, fun p hp => ?_⟩
          exact q' _ p _ (same_upd hp _) hp upd_same (.num _)
        · have c1 : ¬ isDig x = true := c1
          rw [if_neg c1] at q'
          refine ⟨_, rfl, _, rfl, z, i, rfl, hz, by omega, ?_⟩
          have g1 := wend_ge z.cps.toList i
          have g2 := wend_le z.cps.toList i (by omega)
          generalize wend z.cps.toList i = e at q' g1 g2
          refine ⟨_, rfl, _, rfl, _, _, rfl, rfl, _, _, rfl, rfl, _, rfl, ?_⟩
          by_cases c2 : 1 ≤ e - i ∧ e - i ≤ 8
          · rw [if_pos c2] at q'
            rw [show decide ((1 : Int) ≤ (e : Int) - (i : Int)) = true from decide_eq_true (by omega)]
            refine iteT ⟨_, _, rfl, rfl, _, rfl, ?_⟩
            rw [show decide ((e : Int) - (i : Int) ≤ 8) = true from decide_eq_true (by omega)]
            refine iteT ?_
            refine ⟨_, rfl, ?_⟩
            refine ⟨_, rfl, _, rfl, ?_⟩
            refine ⟨_, rfl, _, rfl, z, rfl, big, _, rfl, by show 2 ≤ sizeLine; decide, fun p hp => ?_⟩
            exact q' _ p _ (same_upd hp _) hp upd_same (.wd _)
          · rw [if_neg c2] at q'
            refine ite2 (fun c3 => ⟨_, _, rfl, rfl, _, rfl, ?_⟩) (fun c3 => ⟨_, rfl, ?_⟩)
            · have c3 := of_decide_eq_true c3
              rw [show decide ((e : Int) - (i : Int) ≤ 8) = false from decide_eq_false (by omega)]
              refine iteF ?_
              exact q' H (Same.refl H)
            · refine iteF ?_
              exact q' H (Same.refl H)
    · rw [show decide ((i : Int) ≥ (z.length : Int)) = true from decide_eq_true (by omega)]
      refine iteT ?_
      rw [treeAt_none (by omega)] at q
      exact q H (Same.refl H)
end
end TS
namespace TS
open PySem L2
theorem cut1 (z : Str) (i : Nat) : (cutS z (some (i : Int)) (some ((i : Int) + 1))).cps.toList = (z.cps.toList.drop i).take 1 := by
  have zc : z.cps.toList.length = z.length := len_codes z
  have e1 : HT.sIx z.length 0 (some (i : Int)) = min i z.length := HT.sIx_nat _ _ _
  have e2 : HT.sIx z.length z.length (some ((i : Int) + 1)) = min (i + 1) z.length := HT.sIx_nat _ _ (i + 1)
  unfold cutS
  rw [e1, e2]
  by_cases h : i < z.length
  · rw [Nat.min_eq_left (by omega), Nat.min_eq_left (by omega), Nat.add_sub_cancel_left]
  · rw [Nat.min_eq_right (by omega), Nat.min_eq_right (by omega), Nat.sub_self, List.drop_of_length_le (by omega), List.drop_of_length_le (by omega)]
    rfl
theorem cut1_eq {z : Str} {i d : Nat} {y : Str} (hy : y.cps.toList = [d]) : (cutS z (some (i : Int)) (some ((i : Int) + 1)) = y) ↔ z.cps.toList[i]? = some d := by
  have h := cut1 z i
  constructor
  · intro e
    rw [e, hy] at h
    have : (z.cps.toList.drop i)[0]? = some d := by
      cases hq : z.cps.toList.drop i with
      | nil => rw [hq] at h; simp at h
      | cons c cs =>
        rw [hq] at h
        simp at h
        simp [h]
    rw [List.getElem?_drop] at this
    simpa using this
  · intro e
    apply str_ext
    have hi : i < z.cps.toList.length := (List.getElem?_eq_some_iff.mp e).1
    have hg : z.cps.toList[i] = d := (List.getElem?_eq_some_iff.mp e).2
    rw [h, hy, List.drop_eq_getElem_cons hi, hg]
    rfl
theorem cut1_dec {z : Str} {i d : Nat} {y : Str} (hy : y.cps.toList = [d]) : decide (V.str (cutS z (some (i : Int)) (some ((i : Int) + 1))) = V.str y) = decide (z.cps.toList[i]? = some d) := by
  refine decide_eq_decide.mpr ⟨fun e => ?_, fun e => ?_⟩
  · injection e with e
    exact (cut1_eq hy).mp e
  · rw [(cut1_eq hy).mpr e]
/-- a list that is changed changes no tree -/
theorem trAt_upd {H : Hp} {v : V} {t : Tr} {l : Addr} {xs : List V} {o : HO} (h : TrAt H v t) (hl : H l = some (.lst xs)) : TrAt (upd H l o) v t := by
  induction h with
  | num n => exact .num n
  | wd x => exact .wd x
  | ch h _ _ _ _ a b c d => exact .ch (by rw [upd_ne (ne_of h hl (by intro z; cases z))]; exact h) a b c d
/-- values that are the trees of a list, one by one -/
def TrsAt (H : Hp) (vs : List V) (ts : List Tr) : Prop := vs.length = ts.length ∧ ∀ (i : Nat) v t, vs[i]? = some v → ts[i]? = some t → TrAt H v t
theorem TrsAt.nil {H : Hp} : TrsAt H [] [] := ⟨rfl, fun i v t h _ => by simp at h⟩
theorem TrsAt.same {H H' : Hp} {vs : List V} {ts : List Tr} (h : TrsAt H vs ts) (s : Same H H') : TrsAt H' vs ts := ⟨h.1, fun i v t a b => (h.2 i v t a b).same s⟩
theorem TrsAt.snoc {H : Hp} {vs : List V} {ts : List Tr} {v : V} {t : Tr} (h : TrsAt H vs ts) (g : TrAt H v t) : TrsAt H (vs ++ [v]) (ts ++ [t]) := by
  refine ⟨by simp [h.1], fun i a b ha hb => ?_⟩
  by_cases hi : i < vs.length
  · rw [List.getElem?_append_left hi] at ha
    rw [List.getElem?_append_left (by rw [← h.1]; exact hi)] at hb
    exact h.2 i a b ha hb
  · rw [List.getElem?_append_right (by omega)] at ha
    rw [List.getElem?_append_right (by rw [← h.1]; omega), ← h.1] at hb
    cases hq : i - vs.length with
    | zero =>
      rw [hq] at ha hb
      simp at ha hb
      subst ha hb
      exact g
    | succ k =>
      rw [hq] at ha
      simp at ha
theorem TrsAt.four {H : Hp} {vs : List V} {a b c d : Tr} (h : TrsAt H vs [a, b, c, d]) : ∃ u v y z, vs = [u, v, y, z] ∧ TrAt H u a ∧ TrAt H v b ∧ TrAt H y c ∧ TrAt H z d := by
  obtain ⟨hl, h⟩ := h
  match vs, hl with
  | [u, v, y, z], _ => exact ⟨u, v, y, z, rfl, h 0 _ _ rfl rfl, h 1 _ _ rfl rfl, h 2 _ _ rfl rfl, h 3 _ _ rfl rfl⟩
theorem partsAt_len {p : Nat → Option (Tr × Nat)} {cs : List Nat} : ∀ {ss : List Nat} {i : Nat} {ts : List Tr} {e : Nat}, partsAt p cs ss i = some (ts, e) → ts.length = ss.length
  | [], i, ts, e, h => by
    simp only [partsAt, Option.some.injEq, Prod.mk.injEq] at h
    rw [← h.1]
    rfl
  | s :: ss, i, ts, e, h => by
    unfold partsAt at h
    split at h
    · split at h
      · cases h
      · split at h
        · cases h
        · rename_i h2
          simp only [Option.some.injEq, Prod.mk.injEq] at h
          rw [← h.1, List.length_cons, List.length_cons, partsAt_len h2]
    · cases h
section
variable {P : Program} {w : World} {K : PySem.W.Frag} {mg : Str → Option Value} {base : Heap}
abbrev nmChoice : List Str := ["text", "at", "room", "parts", "sign", "found", "part"]
theorem scChoice : FnScope nmChoice ["text", "at", "room"] (defScope sChoice) := ⟨rfl, rfl, rfl, by decide +kernel, rfl, by decide +kernel, by decide +kernel⟩
theorem sign_codes : ("(=?:" : Str).cps.toList = [40, 61, 63, 58] := by decide +kernel
theorem isNon_dec {v : V} {p : Addr} (h : v = .ref p) : decide (v = V.non) = false := by
  subst h
  exact decide_eq_false (fun e => nomatch e)
theorem ok_choice {n r : Nat} {f ft : Addr} {fd fdt : FuncData} (F : Fun K "_choice_at" "_choice_at" sChoice f fd) (T : BltT mg) (M : CstT mg)
    (FT : Fun K "_tree_at" "_tree_at" sTree ft fdt) (bt : Binds K fdt ["text", "at", "room"] []) (mt : mg "_tree_at" = some (.ref ft))
    (GT : FnOk P w K mg base CX0 n ft fdt ["text", "at", "room"] (spTree r)) : FnOk P w K mg base CX0 (n + 1) f fd ["text", "at", "room"] (spChoice (r + 1)) := by
  refine F.ok scChoice (fun vs H Q E h => ?_) (fun cdv A outer s H vs Q E hr h => ?_)
  · obtain ⟨z, i, room, rfl, _⟩ := h
    rfl
  obtain ⟨z, i, room, rfl, hz, hi, hroom, q⟩ := h
  obtain ⟨ts, ms⟩ := M.signs
  refine ⟨_, pss_cons (ps_set (i := 3) scChoice.nd rfl (.inl rfl) (pe_lst pa_nil))
    (pss_cons (ps_for PassesOwn.never rfl (pi_str (pe_glob rfl ms (show RelV (.str "(=?:") (.str "(=?:" ts) from ⟨_, rfl⟩))) (pg_name (i := 4) scChoice.nd rfl (.inl rfl))
      (pss_cons (ps_set (i := 5) scChoice.nd rfl (.inl rfl) (pe_ifExp (pt_cmpR op_eq (pe_slice sl_str (pv 0) (po_some (pv 1)) (po_some (pe_op op_add (pv 1) pe_int))) (pv 4) (nomark _))
          (pe_call GT hr rfl mt FT.kp bt .nil pass0 (pa_cons (pv 0) (pa_cons (pe_op op_add (pv 1) pe_int) (pa_cons (pe_op op_sub (pv 2) pe_int) pa_nil)))) pe_non))
      (pss_cons (ps_if (pt_cmpR op_isN (pv 5) pe_non (nomark _)) (pss_one (ps_ret pe_non)) pss_nil)
      (pss_cons (ps_asg (pv 5) (pg_tup (by rfl) (pgs_cons (pg_name (i := 6) scChoice.nd rfl (.inl rfl)) (pgs_cons (pg_name (i := 1) scChoice.nd rfl (.inl rfl)) pgs_nil))))
      (pss_one (ps_expr (pe_bm PySem.F.plainAttrs_list PySem.F.slot_list_append PySem.F.type_list_append mt_append (pv 3) (pa_cons (pv 6) pa_nil))))))))
    (pss_cons (ps_if (pt_cmpR op_ne (pe_slice sl_str (pv 0) (po_some (pv 1)) (po_some (pe_op op_add (pv 1) pe_int))) pe_str (nomark _)) (pss_one (ps_ret pe_non)) pss_nil)
    (pss_one (ps_ret (pe_tup (pa_cons (pe_callTy call_tuple_of (by rfl) T.tup (by decide +kernel) (pa_cons (pv 3) pa_nil)) (pa_cons (pe_op op_add (pv 1) pe_int) pa_nil))))))), ?_⟩
  have zc : z.cps.toList.length = z.length := len_codes z
  have big : z.length ≤ sizeLine := Nat.le_trans hz (by decide)
  refine ⟨by show 0 ≤ sizeLine; decide, fun l hl => ?_⟩
  refine ⟨_, rfl, for_strI (fun k σ' H1 => ∃ (j : Nat) (done : List Tr) (vs : List V) (s4 s5 s6 : Option V), σ' = [some (.str z), some (.int j), some (.int ((room + 1 : Nat) : Int)), some (.ref l), s4, s5, s6] ∧ Same H H1 ∧ H1 l = some (.lst vs) ∧ TrsAt H1 vs done ∧ done.length = k ∧
      partsAt (treeAt z room) z.cps.toList [40, 61, 63, 58] i = (partsAt (treeAt z room) z.cps.toList ([40, 61, 63, 58].drop k) j).map fun x => (done ++ x.1, x.2)) ?_ ?_ ?_⟩
  · refine ⟨i, [], [], none, none, none, rfl, same_upd hl _, upd_same, TrsAt.nil, rfl, ?_⟩
    simp only [List.drop_zero, List.nil_append]
    cases partsAt (treeAt z room) z.cps.toList [40, 61, 63, 58] i with
    | none => rfl
    | some x => rfl
  · rintro k c σ' H1 hc ⟨j, done, vs, s4, s5, s6, rfl, s1, l1, tr, hk, ep⟩
    rw [sign_codes] at hc
    have hk4 : k < 4 := (List.getElem?_eq_some_iff.mp hc).1
    have hdr : [40, 61, 63, 58].drop k = c :: [40, 61, 63, 58].drop (k + 1) := by
      rw [List.drop_eq_getElem_cons (by exact hk4)]
      have := (List.getElem?_eq_some_iff.mp hc).2
      rw [this]
    generalize e0 : partsAt (treeAt z room) z.cps.toList [40, 61, 63, 58] i = L at ep
    rw [hdr] at ep
    unfold partsAt at ep
    have hcc : (⟨#[c]⟩ : Str).cps.toList = [c] := rfl
    refine ⟨_, rfl, _, rfl, _, rfl, _, rfl, _, _, rfl, rfl, _, rfl, z, rfl, big, _, rfl, rfl, _, rfl, ?_⟩
    rw [cut1_dec hcc]
    have non : choiceAt (treeAt z room) z.cps.toList i = none → ∀ H', Same H H' → Q .non H' := fun e => by
      rw [e] at q
      exact q
    refine ite2 (fun cc => ?_) (fun cc => ?_)
    · have cc := of_decide_eq_true cc
      rw [if_pos cc] at ep
      have hj : j < z.length := by
        have := (List.getElem?_eq_some_iff.mp cc).1
        omega
      refine ⟨_, rfl, _, rfl, _, _, rfl, rfl, _, rfl, _, _, rfl, rfl, z, j + 1, room, ?_, hz, by omega, by omega, ?_⟩
      · have e : (((room + 1 : Nat) : Int)) - 1 = (room : Int) := by omega
        show [V.str z, V.int ((j : Int) + 1), V.int (((room + 1 : Nat) : Int) - 1)] = _
        rw [e]
        rfl
      cases et : treeAt z room (j + 1) with
      | none =>
        rw [et] at ep
        have e : choiceAt (treeAt z room) z.cps.toList i = none := by
          unfold choiceAt
          rw [e0, ep]
          rfl
        intro H2 g2
        exact ⟨_, rfl, rfl, _, rfl, iteT (non e H2 (s1.trans g2))⟩
      | some te =>
        obtain ⟨t, e⟩ := te
        rw [et] at ep
        intro H2 p v g2 np hp ht
        refine ⟨_, rfl, rfl, _, rfl, ?_⟩
        rw [isNon_dec rfl]
        refine iteF ?_
        refine ⟨_, rfl, p, _, rfl, SqT.of hp, rfl, _, _, rfl, _, _, rfl, rfl, ?_⟩
        refine ⟨_, rfl, .inl ⟨rfl, _, SqL.of (g2 _ _ l1)⟩, _, rfl, l, vs, v, rfl, rfl, g2 _ _ l1, ?_, ?_⟩
        · have := tr.1
          exact small1000 (by omega)
        have lp : ∀ {b o}, H b = some o → b ≠ l := fun {b o} h => ne_of_none h hl
        refine ⟨e, done ++ [t], vs ++ [v], _, _, _, rfl, fun b o h => ?_, upd_same, ?_, by simp [hk], ?_⟩
        · rw [upd_ne (lp h)]
          exact g2 _ _ (s1 _ _ h)
        · have h2 := (tr.same g2).snoc ht
          refine ⟨h2.1, fun i' v' t' a b => ?_⟩
          have h3 := h2.2 i' v' t' a b
          exact trAt_upd h3 (g2 _ _ l1)
        · rw [ep]
          show Option.map (fun x => (done ++ x.fst, x.snd)) (match partsAt (treeAt z room) z.cps.toList ([40, 61, 63, 58].drop (k + 1)) e with | none => none | some (ts, e') => some (t :: ts, e')) = _
          cases partsAt (treeAt z room) z.cps.toList ([40, 61, 63, 58].drop (k + 1)) e with
          | none => rfl
          | some x => simp
    · have cc : ¬ z.cps.toList[j]? = some c := fun e => cc (decide_eq_true e)
      rw [if_neg cc] at ep
      have e : choiceAt (treeAt z room) z.cps.toList i = none := by
        unfold choiceAt
        rw [e0, ep]
        rfl
      refine ⟨_, rfl, rfl, _, rfl, iteT (non e H1 s1)⟩
  · rintro σ' H1 ⟨j, done, vs, s4, s5, s6, rfl, s1, l1, tr, hk, ep⟩
    have h4 : done.length = 4 := by
      rw [hk, sign_codes]
      rfl
    have ed : [40, 61, 63, 58].drop ("(=?:" : Str).cps.toList.length = ([] : List Nat) := by
      rw [sign_codes]
      rfl
    rw [ed] at ep
    have e0 : partsAt (treeAt z room) z.cps.toList [] j = some ([], j) := rfl
    rw [e0] at ep
    simp only [Option.map_some, List.append_nil] at ep
    match done, h4 with
    | [a, b, c, d], _ =>
      obtain ⟨u, v, y, x, rfl, ta, tb, tc, td⟩ := tr.four
      unfold choiceAt at q
      rw [ep] at q
      simp only at q
      refine ⟨_, rfl, _, rfl, _, rfl, _, rfl, _, _, rfl, rfl, _, rfl, z, rfl, big, rfl, _, rfl, ?_⟩
      rw [cut1_dec (d := 41) (by decide +kernel)]
      by_cases hc : z.cps.toList[j]? = some 41
      · rw [if_pos hc] at q
        refine iteNS hc ?_
        refine ⟨_, rfl, l, _, rfl, .inl ⟨SqL.of l1, fun p hp => ?_⟩⟩
        refine ⟨_, rfl, _, _, rfl, rfl, by show 2 ≤ sizeLine; decide, fun p2 hp2 => ?_⟩
        have g1 : Same H1 (upd H1 p (.tup [u, v, y, x])) := same_upd hp _
        have g2 : Same H1 (upd (upd H1 p (.tup [u, v, y, x])) p2 (.tup [.ref p, .int ((j : Int) + 1)])) := g1.trans (same_upd hp2 _)
        have n1 : p ≠ p2 := ne_of_none upd_same hp2
        refine q _ p2 (.ref p) (s1.trans g2) (s1.free (g1.free hp2)) upd_same (.ch (by rw [upd_ne n1, upd_same]) (ta.same g2) (tb.same g2) (tc.same g2) (td.same g2))
      · rw [if_neg hc] at q
        rw [decide_eq_false hc]
        refine iteT ?_
        exact q H1 s1
end
end TS
namespace TS
open PySem L2
abbrev sTreeOf : Stmt := top 19
abbrev sNeed : Stmt := top 20
abbrev sTInit : Stmt := (inClass (top 26) 0)
section
variable {P : Program} {w : World} {K : PySem.W.Frag} {mg : Str → Option Value} {base : Heap}
/-- the reader's two defs, together -/
structure RdF (K : PySem.W.Frag) (mg : Str → Option Value) (fw fc ft : Addr) (fdw fdc fdt : FuncData) : Prop where
  FW : Fun K "_word_end" "_word_end" sWord fw fdw
  bw : Binds K fdw ["text", "at"] []
  mw : mg "_word_end" = some (.ref fw)
  FC : Fun K "_choice_at" "_choice_at" sChoice fc fdc
  bc : Binds K fdc ["text", "at", "room"] []
  mc : mg "_choice_at" = some (.ref fc)
  FT : Fun K "_tree_at" "_tree_at" sTree ft fdt
  bt : Binds K fdt ["text", "at", "room"] []
  mt : mg "_tree_at" = some (.ref ft)
theorem rd_tree {fw fc ft : Addr} {fdw fdc fdt : FuncData} (R : RdF K mg fw fc ft fdw fdc fdt) (T : BltT mg) (M : CstT mg) :
    ∀ r, FnOk P w K mg base CX0 (2 * r + 2) ft fdt ["text", "at", "room"] (spTree r) ∧ FnOk P w K mg base CX0 (2 * r + 1) fc fdc ["text", "at", "room"] (spChoice r)
  | 0 => ⟨ok_tree (n := 0) (r := 0) R.FT T M R.FW R.bw R.mw R.FC R.bc R.mc none_choice, none_choice⟩
  | r + 1 => by
    have h := rd_tree R T M r
    have g : FnOk P w K mg base CX0 (2 * (r + 1) + 1) fc fdc ["text", "at", "room"] (spChoice (r + 1)) := ok_choice (n := 2 * r + 2) R.FC T M R.FT R.bt R.mt h.1
    exact ⟨ok_tree (n := 2 * (r + 1)) R.FT T M R.FW R.bw R.mw R.FC R.bc R.mc g, g⟩
/-! _tree_of_text -/
def TxtRes (H : Hp) (o : Option Tr) (Q : VK) : Prop := match o with
  | none => ∀ H', Same H H' → Q .non H'
  | some t => ∀ (H' : Hp) (v : V), Same H H' → TrAt H' v t → Q v H'
def spTreeText : Sp := fun vs H Q _ => ∃ z : Str, vs = [.str z] ∧ z.length ≤ 100000 ∧ TxtRes H (treeOf z) Q
theorem scTreeText : FnScope ["text", "found", "tree", "end"] ["text"] (defScope sTreeText) := ⟨rfl, rfl, rfl, by decide +kernel, rfl, by decide +kernel, by decide +kernel⟩
theorem ok_treeText {f fw fc ft : Addr} {fd fdw fdc fdt : FuncData} (F : Fun K "_tree_of_text" "_tree_of_text" sTreeText f fd) (R : RdF K mg fw fc ft fdw fdc fdt) (T : BltT mg) (M : CstT mg) :
    FnOk P w K mg base CX0 9 f fd ["text"] spTreeText := by
  refine F.ok scTreeText (fun vs H Q E h => ?_) (fun cdv A outer s H vs Q E hr h => ?_)
  · obtain ⟨z, rfl, _⟩ := h
    rfl
  obtain ⟨z, rfl, hz, q⟩ := h
  obtain ⟨td, md⟩ := M.deep
  have GT : FnOk P w K mg base CX0 8 ft fdt ["text", "at", "room"] (spTree 3) := (rd_tree R T M 3).1
  refine ⟨_, pss_cons (ps_set (i := 1) scTreeText.nd rfl (.inl rfl) (pe_call GT hr rfl R.mt R.FT.kp R.bt .nil pass0 (pa_cons (pv 0) (pa_cons pe_int (pa_cons (pe_glob rfl md (show RelV (.int 3) (.int 3 td) from ⟨_, rfl⟩)) pa_nil)))))
    (pss_cons (ps_if (pt_cmpR op_isN (pv 1) pe_non (nomark _)) (pss_one (ps_ret pe_non)) pss_nil)
    (pss_cons (ps_asg (pv 1) (pg_tup (by rfl) (pgs_cons (pg_name (i := 2) scTreeText.nd rfl (.inl rfl)) (pgs_cons (pg_name (i := 3) scTreeText.nd rfl (.inl rfl)) pgs_nil))))
    (pss_one (ps_ret (pe_ifExp (pt_cmpR op_eq (pv 3) (pe_callB call_len_str (by rfl) T.len PySem.boot_len (pa_cons (pv 0) pa_nil)) (nomark _)) (pv 2) pe_non))))), ?_⟩
  have big : z.length ≤ sizeLine := Nat.le_trans hz (by decide)
  refine ⟨_, rfl, z, 0, 3, rfl, hz, by decide, Nat.le_refl _, ?_⟩
  unfold treeOf at q
  cases et : treeAt z 3 0 with
  | none =>
    rw [et] at q
    intro H1 g1
    exact ⟨_, rfl, rfl, _, rfl, iteT (q H1 g1)⟩
  | some te =>
    obtain ⟨t, e⟩ := te
    rw [et] at q
    simp only at q
    intro H1 p v g1 np hp ht
    refine ⟨_, rfl, rfl, _, rfl, ?_⟩
    rw [isNon_dec rfl]
    refine iteF ?_
    refine ⟨_, rfl, p, _, rfl, SqT.of hp, rfl, _, _, rfl, _, _, rfl, rfl, ?_⟩
    refine ⟨_, rfl, _, rfl, z, rfl, big, rfl, _, rfl, ?_⟩
    by_cases c : e = z.length
    · rw [if_pos c] at q
      subst c
      rw [decide_eq_true rfl]
      exact iteT ⟨_, rfl, q H1 v g1 ht⟩
    · rw [if_neg c] at q
      rw [decide_eq_false (by intro h; injection h with h; exact c (by omega))]
      exact iteF (q H1 g1)
/-! _tree_of, _needed_tree -/
/-- what the walk asks of the class Term as the top has made it -/
structure TermK (K : PySem.W.Frag) (mg : Str → Option Value) (C : Addr) : Prop where
  cl : Cls K C
  mgC : mg "Term" = some (.ref C)
  n1 : NoAttr K C "_tree"
  n2 : NoAttr K C "_text"
  n3 : NoAttr K C "_depth"
  n4 : NoAttr K C "_kind"
  n5 : NoAttr K C "_leaves"
  n6 : NoAttr K C "_variables"
  n7 : NoAttr K C "_constants"
  ha : PySem.W.findIn K (.ref C) "__class__" = some (some (.builtin "object.__class__"))
  hn : PySem.W.specialIn K (.builtin "object.__class__") "__get__" = some (some (.builtin "getset_descriptor.__get__"))
  htk : PySem.W.takesIn K (.builtin "object.__class__") = some true
  hm : PySem.W.mroIn K C (.type "object") = some true
  kC : PySem.W.kitOne K (.ref C) (.ref C) = some true
  kStr : PySem.W.kitOne K (.type "str") (.ref C) = some false
  kInt : PySem.W.kitOne K (.type "int") (.ref C) = some false
  kTup : PySem.W.kitOne K (.type "tuple") (.ref C) = some false
  kCS : PySem.W.kitOne K (.ref C) (.type "str") = some false
theorem TermK.ty {C a dx : Addr} {H : Hp} {fs : List (Str × V)} (T : TermK K mg C) (h : H a = some (.ins C dx fs)) : TyX K H (.ref a) (.ref C) := .base (.ins h T.cl T.ha T.hn T.htk T.hm)
theorem scTreeOf : FnScope ["value"] ["value"] (defScope sTreeOf) := ⟨rfl, rfl, rfl, by decide +kernel, rfl, by decide +kernel, by decide +kernel⟩
/-- what is no Term and no text -/
def spTreeOf (K : PySem.W.Frag) (C : Addr) : Sp := fun vs H Q _ => ∃ x : V, vs = [x] ∧
  ((∃ z : Str, x = .str z ∧ z.length ≤ 100000 ∧ TxtRes H (treeOf z) Q) ∨ (∃ a t, x = .ref a ∧ TermAt C H a t ∧ ∀ v, TrAt H v t → Q v H) ∨
   (∃ (tx : Value) (i b : Bool), TyX K H x tx ∧ PySem.W.kitOne K tx (.ref C) = some false ∧ PySem.W.kitOne K tx (.type "str") = some false ∧ PySem.W.kitOne K tx (.type "int") = some i ∧ PySem.W.kitOne K tx (.type "bool") = some b ∧
      (((i && !b) = true ∧ ∃ n : Int, x = .int n ∧ if 0 ≤ n ∧ n ≤ 9 then Q (.int n) H else Q .non H) ∨ ((i && !b) = false ∧ Q .non H))))
theorem ok_treeOf {C f fx fn : Addr} {fd fdx fdn : FuncData} (F : Fun K "_tree_of" "_tree_of" sTreeOf f fd) (T : BltT mg) (TK : TermK K mg C) (mm : ∃ t, mg "MOST_CONSTANT" = some (.int 9 t))
    (FX : Fun K "_tree_of_text" "_tree_of_text" sTreeText fx fdx) (bx : Binds K fdx ["text"] []) (mx : mg "_tree_of_text" = some (.ref fx)) (GX : FnOk P w K mg base CX0 9 fx fdx ["text"] spTreeText)
    (FN : Fun K "is_number" "is_number" sIsNum fn fdn) (bn : Binds K fdn ["value"] []) (mn : mg "is_number" = some (.ref fn)) : FnOk P w K mg base CX0 10 f fd ["value"] (spTreeOf K C) := by
  refine F.ok scTreeOf (fun vs H Q E h => ?_) (fun cdv A outer s H vs Q E hr h => ?_)
  · obtain ⟨x, rfl, _⟩ := h
    rfl
  obtain ⟨x, rfl, h⟩ := h
  obtain ⟨t9, m9⟩ := mm
  have GN : FnOk P w K mg base CX0 1 fn fdn ["value"] (spNum K) := ok_num FN T
  refine ⟨_, pss_cons (ps_if (pt_val (pe_callB call_isi (by rfl) T.isi bIsi (pa_cons (pv 0) (pa_cons (pe_glob rfl TK.mgC (show RelV (.ref C) (.ref C) from rfl)) pa_nil)))) (pss_one (ps_ret (pe_fld (pv 0) rfl))) pss_nil)
    (pss_cons (ps_if (pt_val (pe_callB call_isi (by rfl) T.isi bIsi (pa_cons (pv 0) (pa_cons (pe_bltn (by rfl) T.str (v := .ty "str") (by decide +kernel) rfl) pa_nil)))) (pss_one (ps_ret (pe_call GX hr rfl mx FX.kp bx .nil pass0 (pa_cons (pv 0) pa_nil)))) pss_nil)
    (pss_one (ps_ret (pe_ifExp (PW.pt (pw_and (pt_val (pe_call GN (hr.mono (by decide)) rfl mn FN.kp bn .nil pass0 (pa_cons (pv 0) pa_nil))) (pw_and1 (pt_chain op_le op_le pe_int (pv 0) (pe_glob rfl m9 (show RelV (.int 9) (.int 9 t9) from ⟨_, rfl⟩)))))) (pv 0) pe_non)))), ?_⟩
  rcases h with ⟨z, rfl, hz, q⟩ | ⟨a, t, rfl, ht, q⟩ | ⟨tx, i, b, ty, k1, k2, k3, k4, q⟩
  · refine ⟨_, rfl, _, _, _, _, _, rfl, .own C, .base (.str z), TK.kStr, _, rfl, iteF ?_⟩
    refine ⟨_, rfl, _, _, _, _, _, rfl, .ty "str", .base (.str z), kit_ty (r := true) (by decide +kernel), _, rfl, iteT ?_⟩
    exact ⟨_, rfl, z, rfl, hz, q⟩
  · obtain ⟨_, _, dx, v, l, qq, r, ws, ns, h1, h2, _⟩ := ht
    refine ⟨_, rfl, _, _, _, _, _, rfl, .own C, TK.ty h1, TK.kC, _, rfl, iteT ?_⟩
    exact ⟨_, rfl, a, C, dx, _, _, rfl, h1, TK.cl, TK.n1, tfs_tree _ _ _ _ _ _ _, q v h2⟩
  · refine ⟨_, rfl, _, _, _, _, _, rfl, .own C, ty, k1, _, rfl, iteF ?_⟩
    refine ⟨_, rfl, _, _, _, _, _, rfl, .ty "str", ty, k2, _, rfl, iteF ?_⟩
    refine ⟨_, rfl, x, tx, i, b, rfl, ty, k3, k4, _, rfl, ?_⟩
    rcases q with ⟨e, n, rfl, q⟩ | ⟨e, q⟩
    · rw [e]
      refine iteT ⟨_, rfl, _, _, rfl, rfl, _, rfl, ?_⟩
      by_cases c0 : 0 ≤ n
      · rw [decide_eq_true c0]
        refine iteT ⟨_, _, rfl, rfl, _, rfl, ?_⟩
        by_cases c9 : n ≤ 9
        · rw [if_pos ⟨c0, c9⟩] at q
          rw [decide_eq_true c9]
          exact iteT ⟨_, rfl, q⟩
        · rw [if_neg (fun h => c9 h.2)] at q
          rw [decide_eq_false c9]
          exact iteF q
      · rw [if_neg (fun h => c0 h.1)] at q
        rw [decide_eq_false c0]
        exact iteF ⟨_, rfl, iteF q⟩
    · rw [e]
      exact iteF (iteF q)
theorem scNeed : FnScope ["value", "tree"] ["value"] (defScope sNeed) := ⟨rfl, rfl, rfl, by decide +kernel, rfl, by decide +kernel, by decide +kernel⟩
/-- what makes the term t: its text, its number, or a Term -/
def Makes (C : Addr) (H : Hp) (x : V) (t : Tr) : Prop := x = .str t.text ∨ (∃ n, t = .num n ∧ x = .int n) ∨ ∃ a, x = .ref a ∧ TermAt C H a t
def spNeed (C : Addr) : Sp := fun vs H Q _ => ∃ (x : V) (t : Tr), vs = [x] ∧ Makes C H x t ∧ t.fine ∧ t.deep ≤ 3 ∧ ∀ (H' : Hp) (v : V), Same H H' → TrAt H' v t → Q v H'
theorem ref_ne {v : V} {H : Hp} {t : Tr} (h : TrAt H v t) : decide (v = V.non) = false := decide_eq_false (fun e => by subst e; cases h)
theorem ok_need {C f fx : Addr} {fd fdx : FuncData} (F : Fun K "_needed_tree" "_needed_tree" sNeed f fd) (T : BltT mg) (TK : TermK K mg C)
    (FX : Fun K "_tree_of" "_tree_of" sTreeOf fx fdx) (bx : Binds K fdx ["value"] []) (mx : mg "_tree_of" = some (.ref fx)) (GX : FnOk P w K mg base CX0 10 fx fdx ["value"] (spTreeOf K C)) : FnOk P w K mg base CX0 11 f fd ["value"] (spNeed C) := by
  refine F.ok scNeed (fun vs H Q E h => ?_) (fun cdv A outer s H vs Q E hr h => ?_)
  · obtain ⟨x, t, rfl, _⟩ := h
    rfl
  obtain ⟨x, t, rfl, hm, hf, hd, q⟩ := h
  refine ⟨_, pss_cons (ps_set (i := 1) scNeed.nd rfl (.inl rfl) (pe_call GX hr rfl mx FX.kp bx .nil pass0 (pa_cons (pv 0) pa_nil)))
    (pss_cons (ps_if (pt_cmpR op_isN (pv 1) pe_non (nomark _)) (pss_one ps_never) pss_nil)
    (pss_one (ps_ret (pv 1)))), ?_⟩
  have fin : ∀ (H' : Hp) (v : V), Same H H' → TrAt H' v t → (∃ v_1, some (some v) = some (some v_1) ∧ True) ∧ decide (v = V.non) = false := fun H' v s h => ⟨⟨v, rfl, True.intro⟩, ref_ne h⟩
  refine ⟨_, rfl, x, rfl, ?_⟩
  rcases hm with rfl | ⟨n, rfl, rfl⟩ | ⟨a, rfl, ha⟩
  · refine .inl ⟨t.text, rfl, Nat.le_trans (text315 hf hd) (by decide), ?_⟩
    rw [treeOf_text hf hd]
    intro H' v s h
    refine ⟨_, rfl, rfl, _, rfl, ?_⟩
    rw [ref_ne h]
    exact iteF ⟨_, rfl, q H' v s h⟩
  · refine .inr (.inr ⟨_, true, false, .base (.int n), TK.kInt, kit_ty (by decide +kernel), kit_ty (by decide +kernel), kit_ty (by decide +kernel), .inl ⟨rfl, n, rfl, ?_⟩⟩)
    rw [if_pos ⟨hf.1, hf.2⟩]
    exact ⟨_, rfl, rfl, _, rfl, iteF ⟨_, rfl, q H _ (Same.refl H) (.num n)⟩⟩
  · refine .inr (.inl ⟨a, t, rfl, ha, fun v h => ?_⟩)
    refine ⟨_, rfl, rfl, _, rfl, ?_⟩
    rw [ref_ne h]
    exact iteF ⟨_, rfl, q H v (Same.refl H) h⟩
end
end TS
namespace TS
open PySem L2
section
variable {P : Program} {w : World} {K : PySem.W.Frag} {mg : Str → Option Value} {base : Heap}
/-- a def stands under its name and keeps its promise -/
def Has (P : Program) (w : World) (K : PySem.W.Frag) (mg : Str → Option Value) (base : Heap) (name : Str) (k : Nat) (ps : List Str) (sp : Sp) : Prop :=
  ∃ (f : Addr) (fd : FuncData), mg name = some (.ref f) ∧ PySem.W.keepIn K (.ref f) = true ∧ Binds K fd ps [] ∧ FnOk P w K mg base CX0 k f fd ps sp
theorem Has.mk {name : Str} {st : Stmt} {f : Addr} {fd : FuncData} {k : Nat} {ps : List Str} {sp : Sp} (F : Fun K name name st f fd) (m : mg name = some (.ref f)) (b : Binds K fd ps []) (G : FnOk P w K mg base CX0 k f fd ps sp) : Has P w K mg base name k ps sp := ⟨f, fd, m, F.kp, b, G⟩
/-- a method of the class at C -/
def HasM (P : Program) (w : World) (K : PySem.W.Frag) (mg : Str → Option Value) (base : Heap) (C : Addr) (m : Str) (k : Nat) (ps : List Str) (sp : Sp) : Prop :=
  ∃ (f : Addr) (fd : FuncData), Meth K C m f ∧ Binds K fd ps [] ∧ FnOk P w K mg base CX0 k f fd ps sp
/-- [x for x in list if test], where the test changes nothing -/
theorem lc_filtL {p D : Addr} {xs : List V} (f : V → Bool) {k : Nat} {tt : TT} {σ : St} {H : Hp} {Qd : Hp → Prop} (hp : H p = some (.lst xs)) (h6 : xs.length ≤ 1000) (hD : H D = none)
    (hw : ∀ v, wipe ((wipe σ [k]).set k v) [k] = wipe σ [k]) (hat : ∀ v, ((wipe σ [k]).set k (some v))[k]? = some (some v))
    (ht : ∀ (i : Nat) (x : V) (H1 : Hp) (R : Bool → Hp → Prop), xs[i]? = some x → Same H H1 → R (f x) H1 → tt ((wipe σ [k]).set k (some x)) H1 R)
    (hd : ∀ H1, Same H H1 → H1 D = some (.lst (xs.filter f)) → Qd H1) :
    ∃ W : Nat → Nat → Hp → Prop, (∃ m, W 0 m (upd H D (.lst []))) ∧ ∀ i m H, W i m H →
      ((Itl K p).stop i H ∧ Qd H) ∨ ((Itl K p).go i H ∧ ∃ Nx : Hp → Prop, (∀ H', Nx H' → ∃ m', m' < m ∧ W (i + 1) m' H') ∧ ∀ x H', (Itl K p).yld i H x H' → gName k x (wipe σ [k]) H' fun σ2 H2 => wipe σ2 [k] = wipe σ [k] ∧ tt σ2 H2 fun b H3 =>
        if b = true then tVar k σ2 H3 fun y H4 => ∃ acc, H4 D = some (.lst acc) ∧ acc.length < sizeLine ∧ Nx (upd H4 D (.lst (acc ++ [y]))) else Nx H3) := by
  have hpD : p ≠ D := ne_of_none hp hD
  refine lc_list (K := K) (a := p) (xs := xs) (fun i H1 => Same H H1 ∧ H1 D = some (.lst ((xs.take i).filter f))) ⟨same_upd hD _, upd_same⟩ (fun i H1 _ z => SqL.of (z.1 _ _ hp)) (fun i x H1 hx z => ?_) (fun H1 z => ?_)
  · obtain ⟨s1, d1⟩ := z
    have hi : i < xs.length := (List.getElem?_eq_some_iff.mp hx).1
    have tk : xs.take (i + 1) = xs.take i ++ [x] := by
      rw [List.take_succ, hx]
      rfl
    refine ⟨hw _, ht i x H1 _ hx s1 ?_⟩
    cases e : f x with
    | true =>
      refine iteT ⟨x, hat x, _, d1, ?_, fun b o q => ?_, ?_⟩
      · have h1 : ((xs.take i).filter f).length ≤ (xs.take i).length := List.length_filter_le _ _
        rw [List.length_take] at h1
        exact small1000 (by omega)
      · rw [upd_ne (ne_of_none q hD)]
        exact s1 _ _ q
      · rw [upd_same, tk, List.filter_append]
        simp [e]
    | false =>
      refine iteF ⟨s1, ?_⟩
      rw [tk, List.filter_append]
      simp [e, d1]
  · obtain ⟨s1, d1⟩ := z
    rw [List.take_length] at d1
    exact hd H1 s1 d1
theorem once_le {κ : Type} [DecidableEq κ] (l : List κ) : (once l).length ≤ l.length := once_len l
theorem filt_words (t : Tr) : t.words.length ≤ t.leaves.length := by
  have h := congrArg List.length (leaves_words t)
  rw [List.length_map] at h
  rw [← h]
  exact List.length_filter_le _ _
theorem filt_nums (t : Tr) : t.nums.length ≤ t.leaves.length := by
  have h := congrArg List.length (leaves_nums t)
  rw [List.length_map] at h
  rw [← h]
  exact List.length_filter_le _ _
/-! Term.__init__ -/
abbrev nmTInit : List Str := ["self", "value", "tree", "leaf"]
theorem scTInit : FnScope nmTInit ["self", "value"] (defScope sTInit) := ⟨rfl, rfl, rfl, by decide +kernel, rfl, by decide +kernel, by decide +kernel⟩
def spTInit (C : Addr) : Sp := fun vs H Q _ => ∃ (p dx : Addr) (x : V) (t : Tr), vs = [.ref p, x] ∧ H p = some (.ins C dx []) ∧ Makes C H x t ∧ t.fine ∧ t.deep ≤ 3 ∧ ∀ H', SameX p H H' → (∀ Ds, Lists Ds H → ∀ G, SameOff Ds H' G → TermAt C G p t) → Q .non H'
theorem sx_upd {p : Addr} {H H1 : Hp} {o : HO} (s : SameX p H H1) : SameX p H (upd H1 p o) := fun b u h n => by
  rw [upd_ne n]
  exact s b u h n
theorem sx_self {p : Addr} {H : Hp} {o : HO} : SameX p H (upd H p o) := sx_upd (SameX.refl p H)
theorem ins_tup {H : Hp} {p C dx : Addr} {fs : List (Str × V)} (h : H p = some (.ins C dx fs)) : ∀ xs, H p ≠ some (.tup xs) := fun xs e => by
  rw [h] at e
  cases e
theorem few {f : Str} {v : V} {fs : List (Str × V)} {n : Nat} (h : fs.length ≤ n) : (putF f v fs).length ≤ n + 1 := Nat.le_trans (length_putF f v fs) (Nat.succ_le_succ h)
theorem nxt {H A H2 : Hp} {p C dx : Addr} {z : List (Str × V)} {v : V} {t : Tr} (z' : List (Str × V)) (x1 : SameX p H A) (t2 : TrAt A v t) (p2 : A p = some (.ins C dx z)) (g : Same A H2) :
    SameX p H (upd H2 p (.ins C dx z')) ∧ TrAt (upd H2 p (.ins C dx z')) v t ∧ (upd H2 p (.ins C dx z')) p = some (.ins C dx z') :=
  ⟨sx_upd (x1.trans (Same.x g)), (t2.same g).sameX sx_self (ins_tup (g _ _ p2)), upd_same⟩
theorem lst_upd {H : Hp} {l p : Addr} {o u : HO} (h : H l = some o) (n : l ≠ p) : upd H p u l = some o := by
  rw [upd_ne n]
  exact h
theorem isS_kit {H : Hp} {t : Tr} {v : V} (h : v ∈ t.leaves) : ∃ u, TyX K H v u ∧ PySem.W.kitOne K u (.type "str") = some (isS v) := by
  rcases leaves_kind t v h with ⟨x, rfl⟩ | ⟨n, rfl⟩
  · exact ⟨_, .base (.str x), kit_ty (r := true) (by decide +kernel)⟩
  · exact ⟨_, .base (.int n), kit_ty (r := false) (by decide +kernel)⟩
theorem ok_tinit {C f : Addr} {fd : FuncData} (F : Fun K "__init__" "Term.__init__" sTInit f fd) (T : BltT mg) (TK : TermK K mg C)
    (D1 : Has P w K mg base "_needed_tree" 11 ["value"] (spNeed C)) (D2 : Has P w K mg base "_text_of" 3 ["tree"] (spText 3)) (D3 : Has P w K mg base "_depth_of" 3 ["tree"] (spDepth 3)) (D4 : Has P w K mg base "_kind_of" 1 ["tree"] spKind)
    (D5 : Has P w K mg base "_leaves_of" 3 ["tree"] (spLeaves 3)) (D6 : Has P w K mg base "ascending" 1 ["values"] spAsc) : FnOk P w K mg base CX0 12 f fd ["self", "value"] (spTInit C) := by
  obtain ⟨f1, fd1, m1, k1, b1, G1⟩ := D1
  obtain ⟨f2, fd2, m2, k2, b2, G2⟩ := D2
  obtain ⟨f3, fd3, m3, k3, b3, G3⟩ := D3
  obtain ⟨f4, fd4, m4, k4, b4, G4⟩ := D4
  obtain ⟨f5, fd5, m5, k5, b5, G5⟩ := D5
  obtain ⟨f6, fd6, m6, k6, b6, G6⟩ := D6
  refine F.ok scTInit (fun vs H Q E h => ?_) (fun cdv A outer s H vs Q E hr h => ?_)
  · obtain ⟨p, dx, x, t, rfl, _⟩ := h
    rfl
  obtain ⟨p, dx, x, t, rfl, hp, hm, hf, hd, q⟩ := h
  have r3 : Room 3 _ := hr.mono (by decide)
  have r1 : Room 1 _ := hr.mono (by decide)
  refine ⟨_, pss_cons (ps_set (i := 2) scTInit.nd rfl (.inl rfl) (pe_call G1 hr rfl m1 k1 b1 .nil pass0 (pa_cons (pv 1) pa_nil)))
    (pss_cons (ps_fld (pv 0) (pv 2) rfl)
    (pss_cons (ps_fld (pv 0) (pe_call G2 r3 rfl m2 k2 b2 .nil pass0 (pa_cons (pv 2) pa_nil)) rfl)
    (pss_cons (ps_fld (pv 0) (pe_call G3 r3 rfl m3 k3 b3 .nil pass0 (pa_cons (pv 2) pa_nil)) rfl)
    (pss_cons (ps_fld (pv 0) (pe_call G4 r1 rfl m4 k4 b4 .nil pass0 (pa_cons (pv 2) pa_nil)) rfl)
    (pss_cons (ps_fld (pv 0) (pe_call G5 r3 rfl m5 k5 b5 .nil pass0 (pa_cons (pv 2) pa_nil)) rfl)
    (pss_cons (ps_fld (pv 0) (pe_call G6 r1 rfl m6 k6 b6 .nil pass0 (pa_cons
      (pe_lc (own := [("leaf", 3)]) (g := gName 3) (tt := tTest (tCB (rIsi K) (tCons (tVar 3) (tCons (tC (.ty "str")) tNil)))) (by rfl) scTInit.nd (pi_list (pe_fld (pv 0) rfl)) (blkOk_by (own := [("leaf", 3)]) (N := nmTInit) (sc := defScope sTInit) (by decide +kernel)) (fun _ _ _ _ _ => pg_name (i := 3) scTInit.nd rfl (Or.inl rfl))
        (fun _ _ _ _ _ => pts_one (pt_val (pe_callB call_isi (by rfl) T.isi bIsi (pa_cons (pv 3) (pa_cons (pe_bltn (by rfl) T.str (v := .ty "str") (by decide +kernel) rfl) pa_nil))))) (fun _ _ _ _ _ => pv 3)) pa_nil)) rfl)
    (pss_one (ps_fld (pv 0) (pe_call G6 r1 rfl m6 k6 b6 .nil pass0 (pa_cons
      (pe_lc (own := [("leaf", 3)]) (g := gName 3) (tt := tNot (tTest (tCB (rIsi K) (tCons (tVar 3) (tCons (tC (.ty "str")) tNil))))) (by rfl) scTInit.nd (pi_list (pe_fld (pv 0) rfl)) (blkOk_by (own := [("leaf", 3)]) (N := nmTInit) (sc := defScope sTInit) (by decide +kernel)) (fun _ _ _ _ _ => pg_name (i := 3) scTInit.nd rfl (Or.inl rfl))
        (fun _ _ _ _ _ => pts_one (pt_not (pt_val (pe_callB call_isi (by rfl) T.isi bIsi (pa_cons (pv 3) (pa_cons (pe_bltn (by rfl) T.str (v := .ty "str") (by decide +kernel) rfl) pa_nil)))))) (fun _ _ _ _ _ => pv 3)) pa_nil)) rfl)))))))), ?_⟩
  have l16 := leaves16 hd
  have lw := filt_words t
  have ln := filt_nums t
  have t315 := text315 hf hd
  refine ⟨_, rfl, x, t, rfl, hm, hf, hd, fun H1 v s1 t1 => ?_⟩
  have p1 := s1 _ _ hp
  -- self._tree
  refine ⟨_, rfl, _, rfl, p, C, dx, [], rfl, p1, TK.cl, TK.n1, (by show 0 < 1000; decide), ?_⟩
  generalize ez1 : putF "_tree" v [] = z1
  obtain ⟨x1, t2, p2⟩ := nxt z1 (SameX.refl p H |>.trans (Same.x s1)) t1 p1 (Same.refl H1)
  have c1 : z1.length ≤ 1 := by
    rw [← ez1]
    exact few (Nat.le_refl 0)
  generalize upd H1 p (.ins C dx z1) = A1 at x1 t2 p2
  -- self._text
  refine ⟨_, rfl, v, t, rfl, t2, hf.small, hd, by omega, fun H2 g2 => ?_⟩
  refine ⟨_, rfl, p, C, dx, z1, rfl, g2 _ _ p2, TK.cl, TK.n2, by omega, ?_⟩
  generalize ez2 : putF "_text" (.str t.text) z1 = z2
  obtain ⟨x2, t3, p3⟩ := nxt z2 x1 t2 p2 g2
  have c2 : z2.length ≤ 2 := by
    rw [← ez2]
    exact few c1
  generalize upd H2 p (.ins C dx z2) = A2 at x2 t3 p3
  -- self._depth
  refine ⟨_, rfl, v, t, rfl, t3, hd, fun H3 g3 => ?_⟩
  refine ⟨_, rfl, p, C, dx, z2, rfl, g3 _ _ p3, TK.cl, TK.n3, by omega, ?_⟩
  generalize ez3 : putF "_depth" (.int t.deep) z2 = z3
  obtain ⟨x3, t4, p4⟩ := nxt z3 x2 t3 p3 g3
  have c3 : z3.length ≤ 3 := by
    rw [← ez3]
    exact few c2
  generalize upd H3 p (.ins C dx z3) = A3 at x3 t4 p4
  -- self._kind
  refine ⟨_, rfl, v, t, rfl, t4, ?_⟩
  refine ⟨_, rfl, p, C, dx, z3, rfl, p4, TK.cl, TK.n4, by omega, ?_⟩
  generalize ez4 : putF "_kind" (.str t.kind) z3 = z4
  obtain ⟨x4, t5, p5⟩ := nxt z4 x3 t4 p4 (Same.refl A3)
  have c4 : z4.length ≤ 4 := by
    rw [← ez4]
    exact few c3
  generalize upd A3 p (.ins C dx z4) = A4 at x4 t5 p5
  -- self._leaves
  refine ⟨_, rfl, v, t, rfl, t5, hd, by omega, fun l H5 g5 nl hl => ?_⟩
  have lp : l ≠ p := (ne_of_none p5 nl).symm
  refine ⟨_, rfl, p, C, dx, z4, rfl, g5 _ _ p5, TK.cl, TK.n5, by omega, ?_⟩
  generalize ez5 : putF "_leaves" (.ref l) z4 = z5
  obtain ⟨x5, t6, p6⟩ := nxt z5 x4 t5 p5 g5
  have l6 := lst_upd (u := .ins C dx z5) hl lp
  have c5 : z5.length ≤ 5 := by
    rw [← ez5]
    exact few c4
  have k5 : z5.lookup ("_leaves" : Str) = some (.ref l) := by
    rw [← ez5, lookup_putF, if_pos rfl]
  generalize upd H5 p (.ins C dx z5) = A5 at x5 t6 p6 l6
  -- self._variables
  refine ⟨_, rfl, p, C, dx, _, _, rfl, p6, TK.cl, TK.n5, k5, l, rfl, ⟨_, SqL.of l6⟩, fun D hD => lc_filtL isS l6 (by omega) hD (fun _ => rfl) (fun _ => rfl) (fun i y H1 R hy sy r => ?_) (fun H6 g6 d6 => ?_)⟩
  · obtain ⟨u, ty, ky⟩ := isS_kit (K := K) (H := H1) (List.mem_of_getElem? hy)
    exact ⟨_, rfl, _, _, _, _, _, rfl, .ty "str", ty, ky, _, rfl, r⟩
  rw [leaves_words] at d6
  refine ⟨D, _, rfl, d6, by rw [List.length_map]; omega, .inl ⟨t.words, rfl, fun qv H7 ws g7 nq pw sw hq => ?_⟩⟩
  have g67 := g6.trans g7
  have qp : qv ≠ p := (ne_of_none (g6 _ _ p6) nq).symm
  refine ⟨_, rfl, p, C, dx, z5, rfl, g67 _ _ p6, TK.cl, TK.n6, by omega, ?_⟩
  generalize ez6 : putF "_variables" (.ref qv) z5 = z6
  obtain ⟨x6, t7, p7⟩ := nxt z6 x5 t6 p6 g67
  have l7 := lst_upd (u := .ins C dx z6) (g67 _ _ l6) lp
  have q7 := lst_upd (u := .ins C dx z6) hq qp
  have c6 : z6.length ≤ 6 := by
    rw [← ez6]
    exact few c5
  have k6 : z6.lookup ("_leaves" : Str) = some (.ref l) := by
    rw [← ez6, lookup_putF, if_neg (by decide +kernel)]
    exact k5
  generalize upd H7 p (.ins C dx z6) = A6 at x6 t7 p7 l7 q7
  -- self._constants
  refine ⟨_, rfl, p, C, dx, _, _, rfl, p7, TK.cl, TK.n5, k6, l, rfl, ⟨_, SqL.of l7⟩, fun D hD => lc_filtL (fun y => !isS y) l7 (by omega) hD (fun _ => rfl) (fun _ => rfl) (fun i y H1 R hy sy r => ?_) (fun H8 g8 d8 => ?_)⟩
  · obtain ⟨u, ty, ky⟩ := isS_kit (K := K) (H := H1) (List.mem_of_getElem? hy)
    exact ⟨_, rfl, _, _, _, _, _, rfl, .ty "str", ty, ky, _, rfl, r⟩
  rw [leaves_nums] at d8
  refine ⟨D, _, rfl, d8, by rw [List.length_map]; omega, .inr ⟨t.nums, rfl, fun rv H9 ns g9 nr pn sn hr9 => ?_⟩⟩
  have g89 := g8.trans g9
  have rp : rv ≠ p := (ne_of_none (g8 _ _ p7) nr).symm
  refine ⟨_, rfl, p, C, dx, z6, rfl, g89 _ _ p7, TK.cl, TK.n7, by omega, ?_⟩
  generalize ez7 : putF "_constants" (.ref rv) z6 = z7
  obtain ⟨x7, t8, p8⟩ := nxt z7 x6 t7 p7 g89
  have l8 := lst_upd (u := .ins C dx z7) (g89 _ _ l7) lp
  have q8 := lst_upd (u := .ins C dx z7) (g89 _ _ q7) qp
  have r8 := lst_upd (u := .ins C dx z7) hr9 rp
  have ez : z7 = tfs v t.text t.deep t.kind l qv rv := by
    rw [← ez7, ← ez6, ← ez5, ← ez4, ← ez3, ← ez2, ← ez1]
    rfl
  generalize upd H9 p (.ins C dx z7) = A7 at x7 t8 p8 l8 q8 r8
  rw [ez] at p8
  refine q A7 x7 fun Ds hDs G sG => ?_
  have out : ∀ {b : Addr} {o : HO}, A7 b = some o → (∀ xs, o ≠ .lst xs) → b ∉ Ds := fun {b o} hb no m => by
    obtain ⟨xs, e⟩ := hDs b m
    have nb : b ≠ p := ne_of e hp (by intro z; cases z)
    have := x7 b _ e nb
    rw [hb] at this
    exact no xs (Option.some.inj this)
  have lD : l ∉ Ds := fun m => by
    obtain ⟨xs, e⟩ := hDs l m
    have := x4 l _ e (ne_of e hp (by intro z; cases z))
    rw [nl] at this
    cases this
  have qD : qv ∉ Ds := fun m => by
    obtain ⟨xs, e⟩ := hDs qv m
    have := g6 _ _ (x5 qv _ e (ne_of e hp (by intro z; cases z)))
    rw [nq] at this
    cases this
  have rD : rv ∉ Ds := fun m => by
    obtain ⟨xs, e⟩ := hDs rv m
    have := g8 _ _ (x6 rv _ e (ne_of e hp (by intro z; cases z)))
    rw [nr] at this
    cases this
  have hDs7 : Lists Ds A7 := fun D m => by
    obtain ⟨xs, e⟩ := hDs D m
    exact ⟨xs, x7 D _ e (ne_of e hp (by intro z; cases z))⟩
  exact ⟨hf, hd, dx, v, l, qv, rv, ws, ns, sG _ _ p8 (out p8 (by intro xs z; cases z)), t8.off sG hDs7, sG _ _ l8 lD, sG _ _ q8 qD, sG _ _ r8 rD, pw, sw, pn, sn⟩
end
end TS
namespace TS
open PySem PySem.Spec PyProof.Rows PySem.W L2
/-! own __eq__, __contains__, __len__, __str__ reached by ==, !=, in, len, str -/
section
variable {prog : Program} {w : World} {A : Around} {E : Value → Shared → Prop} {s : Shared} {K : Frag} {x C f : Addr} {b tb : Value} {ox : Obj} {od : Option Obj}
/-- a rich comparison whose left side answers -/
theorem rc_one {op : CmpOp} {Q : Value → Shared → Prop} (hu : A.units < cLine) (X : K.In s.heap) (I : InstAt s.heap x ox C od) (hb : Looks (model prog w) s.heap (typeOf b) tb) (hn : notFirst K C tb = true)
    (one : wpAny (model prog w) A (tryCompare (.ref x) (cmpInfo op).2.1 b) (fun r s' => ∃ v, r = some v ∧ Q v s') E s) : wpAny (model prog w) A (richCompare op (.ref x) b) Q E s := by
  unfold richCompare
  simp only [oneThing_ref]
  refine wpAny_holding (wpAny_bind (wpAny_cRoomFor hu ?_))
  refine wpAny_bind (I.type.here (wpAny_bind (hb.here ?_)))
  split
  · rename_i q
    have e : subIn K tb (.ref C) = some false := by
      rcases Bool.or_eq_true_iff.mp hn with e | e
      · rw [beq_iff_eq.mp e] at q
        simp at q
      · exact beq_iff_eq.mp e
    refine wpAny_bind ((looks_subIn X e).here ?_)
    simp only [Bool.false_eq_true, if_false]
    refine wpAny_bind (wpAny_mono one (fun r s' z => ?_) fun _ _ e => e)
    obtain ⟨v, rfl, hq⟩ := z
    exact wpAny_pure hq
  · refine wpAny_bind (wpAny_pure ?_)
    simp only [Bool.false_eq_true, if_false]
    refine wpAny_bind (wpAny_mono one (fun r s' z => ?_) fun _ _ e => e)
    obtain ⟨v, rfl, hq⟩ := z
    exact wpAny_pure hq
/-- the answer is a truth -/
def TruthBack (Q : Bool → Shared → Prop) (v : Value) (s' : Shared) : Prop := ∃ k, v = .bool k ∧ Q k s'
theorem try_eq {Q : Bool → Shared → Prop} (X : K.In s.heap) (I : InstAt s.heap x ox C od) (hs : findIn K (.ref C) "__eq__" = some (some (.ref f))) (hf : isFn K (.ref f) = true)
    (h : wpAny (model prog w) A (call (.ref f) [.ref x, b]) (TruthBack Q) E s) : wpAny (model prog w) A (tryCompare (.ref x) "__eq__" b) (fun r s' => ∃ v, r = some v ∧ TruthBack Q v s') E s := by
  unfold tryCompare
  refine wpAny_bind (ifBound_K X I hs hf (wpAny_mono h (fun v s' hv => ?_) fun _ _ e => e))
  obtain ⟨k, rfl, hq⟩ := hv
  exact wpAny_pure ⟨_, rfl, k, rfl, hq⟩
theorem bind_one : ∀ self, bindSpecial (.builtin "object.__ne__") self = pure (.builtin "object.__ne__", [self]) := F.cmp_object.ne.bind
theorem ifBound_ne {args : List Value} {Q : Option Value → Shared → Prop} {M : Model} (X : K.In s.heap) (I : InstAt s.heap x ox C od) (hs : findIn K (.ref C) "__ne__" = some (some (.builtin "object.__ne__")))
    (h : wpAny M A (call (.builtin "object.__ne__") (.ref x :: args)) (fun v => Q (some v)) E s) : wpAny M A (callSpecialIfBound? (.ref x) "__ne__" args) Q E s := by
  simp only [callSpecialIfBound?, bindSpecialIfBound?]
  refine wpAny_holding (wpAny_bind (wpAny_bind (wpAny_bind (I.type.here ((looks_findIn X hs).here ?_)))))
  refine wpAny_bind (wpAny_askSetting (wpAny_ite ?_))
  have fin : wpAny M A (call (.builtin "object.__ne__") ([.ref x] ++ args) >>= fun v => pure (some v)) Q E s := wpAny_bind (wpAny_mono h (fun v s' h' => wpAny_pure h') fun _ _ h' => h')
  split
  · exact wpAny_bind (wpAny_of_eq (bind_one _) (wpAny_pure (by exact fin)))
  · exact wpAny_tryCatch (wpAny_bind (wpAny_of_eq (bind_one _) (wpAny_pure (by exact fin))))
theorem ne_entry {Q : Fin → Shared → Prop} (hu : A.units < cLine) (X : K.In s.heap) (I : InstAt s.heap x ox C od) (hs : findIn K (.ref C) "__eq__" = some (some (.ref f))) (hf : isFn K (.ref f) = true)
    (h : wpAny (model prog w) A (call (.ref f) [.ref x, b]) (TruthBack fun k s' => Q (.done (.ret (.bool (!k)))) s') E s) :
    wpAny (model prog w) A (Builtin.«object.__ne__» ⟨[.ref x, b], []⟩) Q E s := by
  unfold Builtin.«object.__ne__»
  repeat (first
    | with_reducible refine wpAny_cRoomFor hu ?_
    | (refine wpAny_bind (m := callSpecialIfBound? (.ref x) (Str.ofString "__eq__") [b])
        (ifBound_K X I hs hf (wpAny_mono h (fun r s' hr => by
          obtain ⟨k, rfl, hq⟩ := hr
          repeat (first | exact hq | exact wpAny_pure hq | exact wpAny_truthy_bool hq | (refine wpAny_bind (m := truthy (.bool _)) (wpAny_truthy_bool ?_)) | wp_step)) fun _ _ e => e)))
    | wp_step)
theorem try_ne {Q : Bool → Shared → Prop} (hu : A.in1.units < cLine) (X : K.In s.heap) (I : InstAt s.heap x ox C od) (hn : findIn K (.ref C) "__ne__" = some (some (.builtin "object.__ne__"))) (hm : mroIn K C (.type "object") = some true)
    (hs : findIn K (.ref C) "__eq__" = some (some (.ref f))) (hf : isFn K (.ref f) = true)
    (h : wpAny (model prog w) A.in1 (call (.ref f) [.ref x, b]) (TruthBack fun k s' => Q (!k) s') E s) : wpAny (model prog w) A (tryCompare (.ref x) "__ne__" b) (fun r s' => ∃ v, r = some v ∧ TruthBack Q v s') E s := by
  unfold tryCompare
  refine wpAny_bind (ifBound_ne X I hn (wpAny_call (codeAny_call_builtin F.cmp_object.ne.plain F.cmpEntry_ne
    (check_slot F.cmpKind_ne F.cmpSplit_ne (I.type.andThen (looks_mroIn X hm)) (F.cmpArgs_ne _ _) (ne_entry hu X I hs hf (wpAny_mono h (fun v s' hv => ?_) fun _ _ e => e))))))
  obtain ⟨k, rfl, hq⟩ := hv
  exact ⟨k, rfl, wpAny_pure ⟨_, rfl, _, rfl, hq⟩⟩
theorem in_own {Q : Bool → Shared → Prop} (X : K.In s.heap) (I : InstAt s.heap x ox C od) (hs : findIn K (.ref C) "__contains__" = some (some (.ref f))) (hf : isFn K (.ref f) = true)
    (h : wpAny (model prog w) A (call (.ref f) [.ref x, b]) (TruthBack Q) E s) : wpAny (model prog w) A (contains (.ref x) b) Q E s := by
  unfold contains
  refine wpAny_holding ?_
  simp only [stdlibNamesSay?]
  refine wpAny_bind (wpAny_bind (I.type.here ((looks_findIn X hs).here ?_)))
  simp only [callSpecialUnlessNone?]
  have e : (some (Value.ref f) == some Value.none) = false := rfl
  rw [e]
  simp only [Bool.false_eq_true, if_false]
  refine wpAny_bind (wpAny_bind (wpAny_bind (I.type.here ((looks_findIn X hs).here (wpAny_holding (wpAny_bind ((bind_fn X _ (beq_iff_eq.mp hf)).here ?_)))))))
  have e2 : (Value.ref f == Value.none) = false := rfl
  simp only [e2, Bool.false_eq_true, if_false]
  refine wpAny_bind (wpAny_mono h (fun v s' hv => ?_) fun _ _ e => e)
  obtain ⟨k, rfl, hq⟩ := hv
  exact wpAny_pure (wpAny_truthy_bool hq)
end
section
variable {X : Cx} {CX : CXT} {n : Nat} {C f : Addr} {fd : FuncData} {ps : List Str} {sp : Sp} {E : XK}
/-- an own method called by the machine -/
theorem own_call {pins : List (Addr × Obj)} {σ : L2.St} {H : Hp} {s : Shared} {A : Around} {xs : List V} {us : List Value} {Q : VK} (I : Inv X pins σ H s) (hA : A.frames = X.A.frames) (hr : Room n A)
    (G : FnOk X.prog X.w X.K X.mg X.base CX n f fd ps sp) (hb : Binds X.K fd ps []) (hx : Passes CX X E) (rv : Vals xs us) (h : sp xs H Q E) :
    wpAny (model X.prog X.w) A (call (.ref f) us) (EP X pins σ Q) X.xe s := by
  have e0 : Env0 X.prog X.w X.K X.mg X.base A X.stack s H := by
    have e := I.env0
    exact ⟨by rw [hA]; exact e.frames, e.mod, e.bs, e.bsz, e.funs, e.frf, e.hok, e.bare⟩
  have hl := G.len _ _ _ _ h
  refine wpAny_call (codeAny_mono (G.run A X.stack s H ⟨us, []⟩ us xs Q E hr e0 (by
    have := hb s us I.kIn (by rw [List.append_nil, ← rv.length]; exact hl)
    simpa using this) rv h) fun r s' hq => ?_)
  cases r with
  | error e => exact hx pins σ H s e s' I hq
  | ok fl =>
    cases fl with
    | ret u => exact I.after hq
    | next => exact False.elim hq
    | brk => exact False.elim hq
    | cont => exact False.elim hq
/-- an answer that is a truth -/
def Tr1 (Q : Bool → Hp → Prop) : VK := fun v H => ∃ k, v = .bl k ∧ Q k H
def rOwn2 (K : Frag) (C : Addr) (sp : Sp) (E : XK) (g : Bool → Bool) : R2 := fun x y H Q => ∃ a dx fs t, x = .ref a ∧ H a = some (.ins C dx fs) ∧ TyX K H y t ∧ notFirst K C t = true ∧ sp [.ref a, y] H (Tr1 fun k H' => Q (.bl (g k)) H') E
theorem op_eqOwn (G : FnOk X.prog X.w X.K X.mg X.base CX n f fd ps sp) (hs : findIn X.K (.ref C) "__eq__" = some (some (.ref f))) (hf : isFn X.K (.ref f) = true) (hb : Binds X.K fd ps []) (hx : Passes CX X E) (hr : Room n X.A) :
    OpR X (compareOp .Eq) (rOwn2 X.K C sp E id) := by
  intro pins s σ H x y v u Q I rx ry h
  obtain ⟨a, dx, fs, t, rfl, ha, ty, nf, q⟩ := h
  cases rx
  obtain ⟨mA, J, _⟩ := ins_get I.hok ha
  obtain ⟨od, J, _⟩ := J.look
  obtain ⟨P, Z, p, _⟩ := kit_of I ry ty
  show wpAny (model X.prog X.w) X.A (richCompare .Eq (.ref a) u) (EP X pins σ Q) X.xe s
  refine wpAny_mono (rc_one (op := .Eq) (Q := TruthBack fun k s' => EP X pins σ Q (.bool k) s') hr.units0 I.kIn J (Z.ty _ _ I.kIn p) nf (try_eq I.kIn J hs hf (wpAny_mono (own_call I rfl hr G hb hx (.cons (show L2.RelV (.ref a) (Value.ref a) from rfl) (.cons ry .nil)) q) (fun r s' z => ?_) fun _ _ e => e))) (fun r s' z => ?_) fun _ _ e => e
  · obtain ⟨v, H', I', rv, k, rfl, q'⟩ := z
    cases rv
    exact ⟨k, rfl, .bl k, H', I', rfl, q'⟩
  · obtain ⟨k, rfl, q'⟩ := z
    exact q'
theorem op_neOwn (G : FnOk X.prog X.w X.K X.mg X.base CX n f fd ps sp) (hne : findIn X.K (.ref C) "__ne__" = some (some (.builtin "object.__ne__"))) (hm : mroIn X.K C (.type "object") = some true) (hs : findIn X.K (.ref C) "__eq__" = some (some (.ref f))) (hf : isFn X.K (.ref f) = true) (hb : Binds X.K fd ps []) (hx : Passes CX X E) (hr : Room (n + 1) X.A) :
    OpR X (compareOp .NotEq) (rOwn2 X.K C sp E not) := by
  intro pins s σ H x y v u Q I rx ry h
  obtain ⟨a, dx, fs, t, rfl, ha, ty, nf, q⟩ := h
  cases rx
  obtain ⟨mA, J, _⟩ := ins_get I.hok ha
  obtain ⟨od, J, _⟩ := J.look
  obtain ⟨P, Z, p, _⟩ := kit_of I ry ty
  show wpAny (model X.prog X.w) X.A (richCompare .NotEq (.ref a) u) (EP X pins σ Q) X.xe s
  refine wpAny_mono (rc_one (op := .NotEq) (Q := TruthBack fun k s' => EP X pins σ Q (.bool k) s') hr.units0 I.kIn J (Z.ty _ _ I.kIn p) nf (try_ne hr.in1.units0 I.kIn J hne hm hs hf (wpAny_mono (own_call (A := X.A.in1) I rfl hr.in1 G hb hx (.cons (show L2.RelV (.ref a) (Value.ref a) from rfl) (.cons ry .nil)) q) (fun r s' z => ?_) fun _ _ e => e))) (fun r s' z => ?_) fun _ _ e => e
  · obtain ⟨v, H', I', rv, k, rfl, q'⟩ := z
    cases rv
    exact ⟨k, rfl, .bl (!k), H', I', rfl, q'⟩
  · obtain ⟨k, rfl, q'⟩ := z
    exact q'
def rOwnIn (C : Addr) (sp : Sp) (E : XK) : R2 := fun x y H Q => ∃ a dx fs, y = .ref a ∧ H a = some (.ins C dx fs) ∧ sp [.ref a, x] H (Tr1 fun k H' => Q (.bl k) H') E
theorem op_inOwn (G : FnOk X.prog X.w X.K X.mg X.base CX n f fd ps sp) (hs : findIn X.K (.ref C) "__contains__" = some (some (.ref f))) (hf : isFn X.K (.ref f) = true) (hb : Binds X.K fd ps []) (hx : Passes CX X E) (hr : Room n X.A) :
    OpR X (compareOp .In) (rOwnIn C sp E) := by
  intro pins s σ H x y v u Q I rx ry h
  obtain ⟨a, dx, fs, rfl, ha, q⟩ := h
  cases ry
  obtain ⟨mA, J, _⟩ := ins_get I.hok ha
  obtain ⟨od, J, _⟩ := J.look
  unfold compareOp
  refine wpAny_bind (in_own I.kIn J hs hf (wpAny_mono (own_call I rfl hr G hb hx (.cons (show L2.RelV (.ref a) (Value.ref a) from rfl) (.cons rx .nil)) q) (fun r s' z => ?_) fun _ _ e => e))
  obtain ⟨v, H', I', rv, k, rfl, q'⟩ := z
  cases rv
  exact ⟨k, rfl, wpAny_pure ⟨.bl k, H', I', rfl, q'⟩⟩
def rOwn1 (C : Addr) (sp : Sp) (E : XK) (R : V → Prop) : List V → Hp → VK → Prop := fun xs H Q => ∃ a dx fs, xs = [.ref a] ∧ H a = some (.ins C dx fs) ∧ sp [.ref a] H (fun v H' => R v ∧ Q v H') E
theorem cr_lenOwn (G : FnOk X.prog X.w X.K X.mg X.base CX n f fd ps sp) (hs : findIn X.K (.ref C) "__len__" = some (some (.ref f))) (hf : isFn X.K (.ref f) = true) (hb : Binds X.K fd ps []) (hx : Passes CX X E) (hr : Room (n + 1) X.A) :
    CallR X (.builtin "len") (rOwn1 C sp E fun v => ∃ m : Nat, v = .int m ∧ m < 1000000) := by
  intro pins s σ H xs us Q I r h
  obtain ⟨a, dx, fs, rfl, ha, q⟩ := h
  obtain ⟨u, rfl, rx⟩ := vals1 r
  cases rx
  obtain ⟨mA, J, _⟩ := ins_get I.hok ha
  obtain ⟨od, J, _⟩ := J.look
  obtain ⟨m, hF⟩ := I.fr
  refine len_K hF I.ok.mod.kin J hs hf (wpAny_mono (own_call (A := X.A.in1) I rfl hr.in1 G hb hx (.cons (show L2.RelV (.ref a) (Value.ref a) from rfl) .nil) q) (fun r s' z => ?_) fun _ _ e => e)
  obtain ⟨v, H', I', rv, ⟨k, rfl, hk⟩, q'⟩ := z
  obtain ⟨t, rfl⟩ := rv
  exact ⟨⟨by omega, by omega⟩, .int k, H', I'.tok _, ⟨_, rfl⟩, q'⟩
theorem cr_strOwn (G : FnOk X.prog X.w X.K X.mg X.base CX n f fd ps sp) (hs : findIn X.K (.ref C) "__str__" = some (some (.ref f))) (hf : isFn X.K (.ref f) = true) (hb : Binds X.K fd ps []) (hx : Passes CX X E) (hr : Room (n + 2) X.A) :
    CallR X (.type "str") (rOwn1 C sp E fun v => ∃ y, v = .str y) := by
  intro pins s σ H xs us Q I r h
  obtain ⟨a, dx, fs, rfl, ha, q⟩ := h
  obtain ⟨u, rfl, rx⟩ := vals1 r
  cases rx
  obtain ⟨mA, J, _⟩ := ins_get I.hok ha
  obtain ⟨od, J, _⟩ := J.look
  refine kso_call hr.in1.in1.units0 I.kIn J hs hf (wpAny_mono (own_call (A := X.A.in1.in1) I rfl hr.in1.in1 G hb hx (.cons (show L2.RelV (.ref a) (Value.ref a) from rfl) .nil) q) (fun r s' z => ?_) fun _ _ e => e)
  obtain ⟨v, H', I', rv, ⟨y, rfl⟩, q'⟩ := z
  obtain ⟨t, rfl⟩ := rv
  exact ⟨.str y, H', I', ⟨_, rfl⟩, q'⟩
end
end TS
namespace TS
open PySem L2
abbrev sTStr : Stmt := (inClass (top 26) 2)
abbrev sTEq : Stmt := (inClass (top 26) 3)
abbrev sTLen : Stmt := (inClass (top 26) 4)
abbrev sTIn : Stmt := (inClass (top 26) 5)
abbrev sTDepth : Stmt := (inClass (top 26) 7)
abbrev sTVars : Stmt := (inClass (top 26) 9)
abbrev sTCons : Stmt := (inClass (top 26) 10)
abbrev sTParts : Stmt := (inClass (top 26) 11)
section
variable {P : Program} {w : World} {K : PySem.W.Frag} {mg : Str → Option Value} {base : Heap}
/-! ### comprehensions whose element is made by a call; what is told of each item stays -/
/-- value by value, each with its item's promise -/
def Each {α : Type} (R : Hp → V → α → Prop) (H : Hp) (vs : List V) (ts : List α) : Prop := vs.length = ts.length ∧ ∀ (i : Nat) v t, vs[i]? = some v → ts[i]? = some t → R H v t
theorem Each.nil {α : Type} {R : Hp → V → α → Prop} {H : Hp} : Each R H [] [] := ⟨rfl, fun i v t h _ => by simp at h⟩
theorem Each.imp {α : Type} {R R' : Hp → V → α → Prop} {H H' : Hp} {vs : List V} {ts : List α} (h : Each R H vs ts) (s : ∀ v t, R H v t → R' H' v t) : Each R' H' vs ts := ⟨h.1, fun i v t a b => s _ _ (h.2 i v t a b)⟩
theorem Each.snoc {α : Type} {R : Hp → V → α → Prop} {H : Hp} {vs : List V} {ts : List α} {v : V} {t : α} (h : Each R H vs ts) (g : R H v t) : Each R H (vs ++ [v]) (ts ++ [t]) := by
  refine ⟨by simp [h.1], fun i a b ha hb => ?_⟩
  by_cases hi : i < vs.length
  · rw [List.getElem?_append_left hi] at ha
    rw [List.getElem?_append_left (by rw [← h.1]; exact hi)] at hb
    exact h.2 i a b ha hb
  · rw [List.getElem?_append_right (by omega)] at ha
    rw [List.getElem?_append_right (by rw [← h.1]; omega), ← h.1] at hb
    cases hq : i - vs.length with
    | zero =>
      rw [hq] at ha hb
      simp at ha hb
      subst ha hb
      exact g
    | succ k =>
      rw [hq] at ha
      simp at ha
theorem Each.take {α : Type} {R : Hp → V → α → Prop} {H : Hp} {vs : List V} {ts : List α} (h : Each R H vs ts) (n : Nat) : Each R H (vs.take n) (ts.take n) := by
  refine ⟨by simp [h.1], fun i v t a b => ?_⟩
  rw [List.getElem?_take] at a b
  split at a
  · rename_i hi
    rw [if_pos hi] at b
    exact h.2 i v t a b
  · cases a
/-- [e for x in tuple], e a call that leaves all as it is -/
theorem lc_eachT {α : Type} (R : Hp → V → α → Prop) {p D : Addr} {xs : List V} {ts : List α} {k : Nat} {te : TE} {σ : St} {H : Hp} {Qd : Hp → Prop} (hp : H p = some (.tup xs)) (hl : ts.length = xs.length) (h6 : xs.length ≤ 1000) (hD : H D = none)
    (hw : ∀ v, wipe ((wipe σ [k]).set k v) [k] = wipe σ [k])
    (step : ∀ (i : Nat) (x : V) (t : α) (H1 : Hp) (G : VK), xs[i]? = some x → ts[i]? = some t → Same H H1 → Lists [D] H1 → (∀ (y : V) H2, Same H1 H2 → (∀ H3, SameOff [D] H2 H3 → R H3 y t) → G y H2) → te ((wipe σ [k]).set k (some x)) H1 G)
    (hd : ∀ H1 ys, Same H H1 → H1 D = some (.lst ys) → Each R H1 ys ts → Qd H1) :
    ∃ W : Nat → Nat → Hp → Prop, (∃ m, W 0 m (upd H D (.lst []))) ∧ ∀ i m H, W i m H →
      ((Itt K p).stop i H ∧ Qd H) ∨ ((Itt K p).go i H ∧ ∃ Nx : Hp → Prop, (∀ H', Nx H' → ∃ m', m' < m ∧ W (i + 1) m' H') ∧ ∀ x H', (Itt K p).yld i H x H' → gName k x (wipe σ [k]) H' fun σ2 H2 => wipe σ2 [k] = wipe σ [k] ∧ tYes σ2 H2 fun b H3 =>
        if b = true then te σ2 H3 fun y H4 => ∃ acc, H4 D = some (.lst acc) ∧ acc.length < sizeLine ∧ Nx (upd H4 D (.lst (acc ++ [y]))) else Nx H3) := by
  refine lc_tup (K := K) (a := p) (xs := xs) (fun i H1 => Same H H1 ∧ ∃ ys, H1 D = some (.lst ys) ∧ Each (fun G v t => ∀ H3, SameOff [D] G H3 → R H3 v t) H1 ys (ts.take i)) ⟨same_upd hD _, [], upd_same, Each.nil⟩ (fun i H1 _ z => SqT.of (z.1 _ _ hp)) (fun i x H1 hx z => ?_) (fun H1 z => ?_)
  · obtain ⟨s1, ys, d1, e1⟩ := z
    have hi : i < xs.length := (List.getElem?_eq_some_iff.mp hx).1
    have ht : ts[i]? = some ts[i] := List.getElem?_eq_getElem (by omega)
    refine ⟨hw _, ?_⟩
    unfold tYes
    dsimp only
    rw [if_pos rfl]
    refine step i x ts[i] H1 _ hx ht s1 (fun b m => by rw [List.mem_singleton.mp m]; exact ⟨ys, d1⟩) fun y H2 s2 r2 => ?_
    refine ⟨ys, s2 _ _ d1, ?_, ?_⟩
    · have := e1.1
      rw [List.length_take] at this
      exact small1000 (by omega)
    · refine ⟨fun b o q => ?_, ys ++ [y], upd_same, ?_⟩
      · rw [upd_ne (ne_of_none q hD)]
        exact s2 _ _ (s1 _ _ q)
      · have e2 : Each (fun G v t => ∀ H3, SameOff [D] G H3 → R H3 v t) (upd H2 D (.lst (ys ++ [y]))) (ys ++ [y]) (ts.take i ++ [ts[i]]) :=
          ((e1.imp fun v t h H3 s3 => h H3 ((Same.off s2).trans s3)).snoc (R := fun G v t => ∀ H3, SameOff [D] G H3 → R H3 v t) (H := H2) r2).imp fun v t h H3 s3 => h H3 ((off_upd (SameOff.refl _ _) (by simp)).trans s3)
        rw [List.take_succ, ht]
        exact e2
  · obtain ⟨s1, ys, d1, e1⟩ := z
    rw [List.take_of_length_le (by omega)] at e1
    exact hd H1 ys s1 d1 (e1.imp fun v t h => h H1 (SameOff.refl _ _))
/-! ### a Term made -/
/-- the class Term, made by its __init__ -/
def HasTerm (P : Program) (w : World) (K : PySem.W.Frag) (mg : Str → Option Value) (base : Heap) (C : Addr) : Prop :=
  ∃ (f : Addr) (fd : FuncData), Mk K C f ∧ Binds K fd ["self", "value"] [] ∧ FnOk P w K mg base CX0 12 f fd ["self", "value"] (spTInit C)
theorem Makes.same {C : Addr} {H H' : Hp} {x : V} {t : Tr} (h : Makes C H x t) (s : Same H H') : Makes C H' x t := by
  rcases h with h | h | ⟨a, e, h⟩
  · exact .inl h
  · exact .inr (.inl h)
  · exact .inr (.inr ⟨a, e, h.same s⟩)
theorem make_read {C : Addr} {H : Hp} {x : V} {t : Tr} {Q : VK} {E : XK} (hm : Makes C H x t) (hf : t.fine) (hd : t.deep ≤ 3) (q : ∀ H' a, Same H H' → H a = none → (∀ Ds, Lists Ds H → ∀ G, SameOff Ds H' G → TermAt C G a t) → Q (.ref a) H') :
    ∀ a dx, H a = none → H dx = none → dx ≠ a → spTInit C (.ref a :: ([x] ++ [])) (upd (upd H dx (.own a)) a (.ins C dx [])) (fun v H2 => v = .non ∧ Q (.ref a) H2) E := by
  intro a dx na nd ne
  have s0 : Same H (upd (upd H dx (.own a)) a (.ins C dx [])) := fun b o e => by
    rw [upd_ne (ne_of_none e na), upd_ne (ne_of_none e nd)]
    exact e
  refine ⟨a, dx, x, t, rfl, upd_same, hm.same s0, hf, hd, fun H' sx ht => ⟨rfl, q H' a (fun b o e => sx b o (s0 b o e) (ne_of_none e na)) na fun Ds hDs => ht Ds fun D m => let ⟨xs, e⟩ := hDs D m; ⟨xs, s0 _ _ e⟩⟩⟩
/-! ### methods -/
def spTStr (C : Addr) : Sp := fun vs H Q _ => ∃ (p : Addr) (t : Tr), vs = [.ref p] ∧ TermAt C H p t ∧ Q (.str t.text) H
theorem scSelf (s : Stmt) (h : (defScope s) = defScope s) : True := True.intro
theorem scTStr : FnScope ["self"] ["self"] (defScope sTStr) := ⟨rfl, rfl, rfl, by decide +kernel, rfl, by decide +kernel, by decide +kernel⟩
theorem ok_tstr {C f : Addr} {fd : FuncData} (F : Fun K "__str__" "Term.__str__" sTStr f fd) (T : BltT mg) (TK : TermK K mg C) : FnOk P w K mg base CX0 1 f fd ["self"] (spTStr C) := by
  refine F.ok scTStr (fun vs H Q E h => ?_) (fun cdv A outer s H vs Q E hr h => ?_)
  · obtain ⟨p, t, rfl, _⟩ := h
    rfl
  obtain ⟨p, t, rfl, ht, q⟩ := h
  refine ⟨_, pss_one (ps_ret (pe_callTy SkE.call_str_str (by rfl) T.str (by decide +kernel) (pa_cons (pe_fld (pv 0) rfl) pa_nil))), ?_⟩
  obtain ⟨_, _, dx, v, l, qq, r, ws, ns, h1, _⟩ := ht
  exact ⟨_, rfl, p, C, dx, _, _, rfl, h1, TK.cl, TK.n2, tfs_text _ _ _ _ _ _ _, _, rfl, q⟩
def spTEq (K : PySem.W.Frag) (C : Addr) : Sp := fun vs H Q _ => ∃ (p : Addr) (t : Tr) (y : V), vs = [.ref p, y] ∧ TermAt C H p t ∧
  ((∃ a u, y = .ref a ∧ TermAt C H a u ∧ Q (.bl (decide (V.str t.text = V.str u.text))) H) ∨ (∃ ty, TyX K H y ty ∧ PySem.W.kitOne K ty (.ref C) = some false ∧ Q (.bl false) H))
theorem scTEq : FnScope ["self", "other"] ["self", "other"] (defScope sTEq) := ⟨rfl, rfl, rfl, by decide +kernel, rfl, by decide +kernel, by decide +kernel⟩
theorem ok_teq {C f : Addr} {fd : FuncData} (F : Fun K "__eq__" "Term.__eq__" sTEq f fd) (T : BltT mg) (TK : TermK K mg C) : FnOk P w K mg base CX0 1 f fd ["self", "other"] (spTEq K C) := by
  refine F.ok scTEq (fun vs H Q E h => ?_) (fun cdv A outer s H vs Q E hr h => ?_)
  · obtain ⟨p, t, y, rfl, _⟩ := h
    rfl
  obtain ⟨p, t, y, rfl, ht, q⟩ := h
  refine ⟨_, pss_one (ps_ret (pe_and (pe_callB call_isi (by rfl) T.isi bIsi (pa_cons (pv 1) (pa_cons (pe_glob rfl TK.mgC (show RelV (.ref C) (.ref C) from rfl)) pa_nil)))
    (pe_one (pe_cmpR op_eq (pe_fld (pv 0) rfl) (pe_fld (pv 1) rfl) (nomark _))))), ?_⟩
  obtain ⟨_, _, dx, v, l, qq, r, ws, ns, h1, _⟩ := ht
  rcases q with ⟨a, u, rfl, ha, q⟩ | ⟨ty, hty, kt, q⟩
  · obtain ⟨_, _, dx2, v2, l2, q2, r2, ws2, ns2, h2, _⟩ := ha
    refine ⟨_, rfl, _, _, _, _, _, rfl, .own C, TK.ty h2, TK.kC, _, rfl, iteT ?_⟩
    exact ⟨_, rfl, p, C, dx, _, _, rfl, h1, TK.cl, TK.n2, tfs_text _ _ _ _ _ _ _, _, rfl, a, C, dx2, _, _, rfl, h2, TK.cl, TK.n2, tfs_text _ _ _ _ _ _ _, rfl, q⟩
  · exact ⟨_, rfl, _, _, _, _, _, rfl, .own C, hty, kt, _, rfl, iteF q⟩
def spTLen (C : Addr) : Sp := fun vs H Q _ => ∃ (p : Addr) (t : Tr), vs = [.ref p] ∧ TermAt C H p t ∧ Q (.int t.leaves.length) H
theorem scTLen : FnScope ["self"] ["self"] (defScope sTLen) := ⟨rfl, rfl, rfl, by decide +kernel, rfl, by decide +kernel, by decide +kernel⟩
theorem ok_tlen {C f : Addr} {fd : FuncData} (F : Fun K "__len__" "Term.__len__" sTLen f fd) (T : BltT mg) (TK : TermK K mg C) : FnOk P w K mg base CX0 1 f fd ["self"] (spTLen C) := by
  refine F.ok scTLen (fun vs H Q E h => ?_) (fun cdv A outer s H vs Q E hr h => ?_)
  · obtain ⟨p, t, rfl, _⟩ := h
    rfl
  obtain ⟨p, t, rfl, ht, q⟩ := h
  refine ⟨_, pss_one (ps_ret (pe_callB call_len_seq (by rfl) T.len PySem.boot_len (pa_cons (pe_fld (pv 0) rfl) pa_nil))), ?_⟩
  obtain ⟨_, _, dx, v, l, qq, r, ws, ns, h1, _, h3, _⟩ := ht
  exact ⟨_, rfl, p, C, dx, _, _, rfl, h1, TK.cl, TK.n5, tfs_leaves _ _ _ _ _ _ _, l, _, rfl, .inl (SqL.of h3), q⟩
theorem inV_str (x : Str) (ws : List Str) : inV (.str x) (ws.map V.str) = decide (x ∈ ws) := by
  unfold inV
  rw [List.any_map]
  induction ws with
  | nil => rfl
  | cons y ws ih =>
    rw [List.any_cons, ih]
    rw [Bool.eq_iff_iff]
    simp only [eqV, Function.comp_apply, Bool.or_eq_true, beq_iff_eq, decide_eq_true_eq, List.mem_cons]
    constructor
    · rintro (h | h)
      · exact .inl h.symm
      · exact .inr h
    · rintro (h | h)
      · exact .inl h.symm
      · exact .inr h
theorem inV_int (x : Int) (ns : List Int) : inV (.int x) (ns.map V.int) = decide (x ∈ ns) := by
  unfold inV
  rw [List.any_map]
  induction ns with
  | nil => rfl
  | cons y ws ih =>
    rw [List.any_cons, ih]
    rw [Bool.eq_iff_iff]
    simp only [eqV, Function.comp_apply, Bool.or_eq_true, beq_iff_eq, decide_eq_true_eq, List.mem_cons]
    constructor
    · rintro (h | h)
      · exact .inl h.symm
      · exact .inr h
    · rintro (h | h)
      · exact .inl h.symm
      · exact .inr h
theorem flat_str (ws : List Str) : (ws.map V.str).all flatV = true := by simp [flatV]
theorem flat_int (ns : List Int) : (ns.map V.int).all flatV = true := by simp [flatV]
def spTIn (K : PySem.W.Frag) (C : Addr) : Sp := fun vs H Q _ => ∃ (p : Addr) (t : Tr) (y : V), vs = [.ref p, y] ∧ TermAt C H p t ∧
  ((∃ x, y = .str x ∧ Q (.bl (decide (x ∈ t.words))) H) ∨
   (∃ (ty : Value) (i b : Bool), TyX K H y ty ∧ PySem.W.kitOne K ty (.type "str") = some false ∧ PySem.W.kitOne K ty (.type "int") = some i ∧ PySem.W.kitOne K ty (.type "bool") = some b ∧
      (((i && !b) = true ∧ ∃ n : Int, y = .int n ∧ Q (.bl (decide (n ∈ t.nums))) H) ∨ ((i && !b) = false ∧ Q (.bl false) H))))
theorem scTIn : FnScope ["self", "value"] ["self", "value"] (defScope sTIn) := ⟨rfl, rfl, rfl, by decide +kernel, rfl, by decide +kernel, by decide +kernel⟩
theorem perm_in {κ : Type} [DecidableEq κ] {ws ss : List κ} (h : ws.Perm (once ss)) (x : κ) : decide (x ∈ ws) = decide (x ∈ ss) :=
  decide_eq_decide.mpr (by rw [h.mem_iff, once_mem])
theorem ok_tin {C f : Addr} {fd : FuncData} (F : Fun K "__contains__" "Term.__contains__" sTIn f fd) (T : BltT mg) (TK : TermK K mg C) (D1 : Has P w K mg base "is_number" 1 ["value"] (spNum K)) : FnOk P w K mg base CX0 2 f fd ["self", "value"] (spTIn K C) := by
  obtain ⟨f1, fd1, m1, k1, b1, G1⟩ := D1
  refine F.ok scTIn (fun vs H Q E h => ?_) (fun cdv A outer s H vs Q E hr h => ?_)
  · obtain ⟨p, t, y, rfl, _⟩ := h
    rfl
  obtain ⟨p, t, y, rfl, ht, q⟩ := h
  refine ⟨_, pss_cons (ps_if (pt_val (pe_callB call_isi (by rfl) T.isi bIsi (pa_cons (pv 1) (pa_cons (pe_bltn (by rfl) T.str (v := .ty "str") (by decide +kernel) rfl) pa_nil)))) (pss_one (ps_ret (pe_cmpR op_in_seq (pv 1) (pe_fld (pv 0) rfl) (by rfl)))) pss_nil)
    (pss_one (ps_ret (pe_and (pe_call G1 hr rfl m1 k1 b1 .nil pass0 (pa_cons (pv 1) pa_nil)) (pe_one (pe_cmpR op_in_seq (pv 1) (pe_fld (pv 0) rfl) (by rfl)))))), ?_⟩
  obtain ⟨_, _, dx, v, l, qq, r, ws, ns, h1, _, h3, h4, h5, h6, h7, h8, h9⟩ := ht
  rcases q with ⟨x, rfl, q⟩ | ⟨ty, i, b, hty, ks, ki, kb, q⟩
  · refine ⟨_, rfl, _, _, _, _, _, rfl, .ty "str", .base (.str x), kit_ty (r := true) (by decide +kernel), _, rfl, iteT ?_⟩
    refine ⟨_, rfl, _, rfl, p, C, dx, _, _, rfl, h1, TK.cl, TK.n6, tfs_vars _ _ _ _ _ _ _, qq, _, rfl, .inl (SqL.of h4), rfl, flat_str ws, ?_⟩
    have e : inV (.str x) (ws.map V.str) = decide (x ∈ t.words) := (inV_str x ws).trans (perm_in h6 x)
    rw [if_neg Bool.false_ne_true, e]
    exact q
  · refine ⟨_, rfl, _, _, _, _, _, rfl, .ty "str", hty, ks, _, rfl, iteF ?_⟩
    refine ⟨_, rfl, y, ty, i, b, rfl, hty, ki, kb, _, rfl, ?_⟩
    rcases q with ⟨e, n, rfl, q⟩ | ⟨e, q⟩
    · rw [e]
      refine iteT ⟨_, rfl, _, rfl, p, C, dx, _, _, rfl, h1, TK.cl, TK.n7, tfs_cons _ _ _ _ _ _ _, r, _, rfl, .inl (SqL.of h5), rfl, flat_int ns, ?_⟩
      have e : inV (.int n) (ns.map V.int) = decide (n ∈ t.nums) := (inV_int n ns).trans (perm_in h8 n)
      rw [if_neg Bool.false_ne_true, e]
      exact q
    · rw [e]
      exact iteF q
def spTDepth (C : Addr) : Sp := fun vs H Q _ => ∃ (p : Addr) (t : Tr), vs = [.ref p] ∧ TermAt C H p t ∧ Q (.int t.deep) H
theorem scTDepth : FnScope ["self"] ["self"] (defScope sTDepth) := ⟨rfl, rfl, rfl, by decide +kernel, rfl, by decide +kernel, by decide +kernel⟩
theorem ok_tdepth {C f : Addr} {fd : FuncData} (F : Fun K "depth" "Term.depth" sTDepth f fd) (TK : TermK K mg C) : FnOk P w K mg base CX0 1 f fd ["self"] (spTDepth C) := by
  refine F.ok scTDepth (fun vs H Q E h => ?_) (fun cdv A outer s H vs Q E hr h => ?_)
  · obtain ⟨p, t, rfl, _⟩ := h
    rfl
  obtain ⟨p, t, rfl, ht, q⟩ := h
  refine ⟨_, pss_one (ps_ret (pe_fld (pv 0) rfl)), ?_⟩
  obtain ⟨_, _, dx, v, l, qq, r, ws, ns, h1, _⟩ := ht
  exact ⟨_, rfl, p, C, dx, _, _, rfl, h1, TK.cl, TK.n3, tfs_depth _ _ _ _ _ _ _, q⟩
def spTKind (C : Addr) : Sp := fun vs H Q _ => ∃ (p : Addr) (t : Tr), vs = [.ref p] ∧ TermAt C H p t ∧ Q (.str t.kind) H
def spTVars (C : Addr) : Sp := fun vs H Q _ => ∃ (p : Addr) (t : Tr), vs = [.ref p] ∧ TermAt C H p t ∧ ∀ (l : Addr) (ws : List Str), H l = none → ws.Perm (once t.words) → PyProof.Rows.sortedS ws = true → Q (.ref l) (upd H l (.lst (ws.map V.str)))
theorem scTVars : FnScope ["self"] ["self"] (defScope sTVars) := ⟨rfl, rfl, rfl, by decide +kernel, rfl, by decide +kernel, by decide +kernel⟩
theorem ok_tvars {C f : Addr} {fd : FuncData} (F : Fun K "variables" "Term.variables" sTVars f fd) (ml : mg "list" = none) (TK : TermK K mg C) : FnOk P w K mg base CX0 1 f fd ["self"] (spTVars C) := by
  refine F.ok scTVars (fun vs H Q E h => ?_) (fun cdv A outer s H vs Q E hr h => ?_)
  · obtain ⟨p, t, rfl, _⟩ := h
    rfl
  obtain ⟨p, t, rfl, ht, q⟩ := h
  refine ⟨_, pss_one (ps_ret (pe_callTy call_list_of (by rfl) ml (by decide +kernel) (pa_cons (pe_fld (pv 0) rfl) pa_nil))), ?_⟩
  obtain ⟨_, _, dx, v, l, qq, r, ws, ns, h1, _, h3, h4, h5, h6, h7, _⟩ := ht
  exact ⟨_, rfl, p, C, dx, _, _, rfl, h1, TK.cl, TK.n6, tfs_vars _ _ _ _ _ _ _, qq, _, rfl, .inl (SqL.of h4), fun l hl => q l ws hl h6 h7⟩
def spTCons (C : Addr) : Sp := fun vs H Q _ => ∃ (p : Addr) (t : Tr), vs = [.ref p] ∧ TermAt C H p t ∧ ∀ (l : Addr) (ns : List Int), H l = none → ns.Perm (once t.nums) → ns.Pairwise (· ≤ ·) → Q (.ref l) (upd H l (.lst (ns.map V.int)))
theorem scTCons : FnScope ["self"] ["self"] (defScope sTCons) := ⟨rfl, rfl, rfl, by decide +kernel, rfl, by decide +kernel, by decide +kernel⟩
theorem ok_tcons {C f : Addr} {fd : FuncData} (F : Fun K "constants" "Term.constants" sTCons f fd) (ml : mg "list" = none) (TK : TermK K mg C) : FnOk P w K mg base CX0 1 f fd ["self"] (spTCons C) := by
  refine F.ok scTCons (fun vs H Q E h => ?_) (fun cdv A outer s H vs Q E hr h => ?_)
  · obtain ⟨p, t, rfl, _⟩ := h
    rfl
  obtain ⟨p, t, rfl, ht, q⟩ := h
  refine ⟨_, pss_one (ps_ret (pe_callTy call_list_of (by rfl) ml (by decide +kernel) (pa_cons (pe_fld (pv 0) rfl) pa_nil))), ?_⟩
  obtain ⟨_, _, dx, v, l, qq, r, ws, ns, h1, _, h3, h4, h5, h6, h7, h8, h9⟩ := ht
  exact ⟨_, rfl, p, C, dx, _, _, rfl, h1, TK.cl, TK.n7, tfs_cons _ _ _ _ _ _ _, r, _, rfl, .inl (SqL.of h5), fun l hl => q l ns hl h8 h9⟩
/-! parts -/
def Tr.parts : Tr → List Tr
  | .ch a b c d => [a, b, c, d]
  | _ => []
/-- a value that is a Term of the tree -/
def IsTerm (C : Addr) (H : Hp) (v : V) (t : Tr) : Prop := ∃ a, v = .ref a ∧ TermAt C H a t
theorem IsTerm.same {C : Addr} {H H' : Hp} {v : V} {t : Tr} (h : IsTerm C H v t) (s : Same H H') : IsTerm C H' v t := let ⟨a, e, g⟩ := h; ⟨a, e, g.same s⟩
def spTParts (C : Addr) : Sp := fun vs H Q _ => ∃ (p : Addr) (t : Tr), vs = [.ref p] ∧ TermAt C H p t ∧ ∀ (l : Addr) (ys : List V) (H' : Hp), Same H H' → H l = none → H' l = some (.lst ys) → Each (IsTerm C) H' ys t.parts → Q (.ref l) H'
abbrev nmTParts : List Str := ["self", "part"]
theorem scTParts : FnScope nmTParts ["self"] (defScope sTParts) := ⟨rfl, rfl, rfl, by decide +kernel, rfl, by decide +kernel, by decide +kernel⟩
theorem ok_tparts {C f : Addr} {fd : FuncData} (F : Fun K "parts" "Term.parts" sTParts f fd) (T : BltT mg) (TK : TermK K mg C) (D2 : Has P w K mg base "_text_of" 3 ["tree"] (spText 3)) (DT : HasTerm P w K mg base C) : FnOk P w K mg base CX0 14 f fd ["self"] (spTParts C) := by
  obtain ⟨f2, fd2, m2, k2, b2, G2⟩ := D2
  obtain ⟨f3, fd3, M3, b3, G3⟩ := DT
  refine F.ok scTParts (fun vs H Q E h => ?_) (fun cdv A outer s H vs Q E hr h => ?_)
  · obtain ⟨p, t, rfl, _⟩ := h
    rfl
  obtain ⟨p, t, rfl, ht, q⟩ := h
  have r3 : Room 3 _ := hr.mono (by decide)
  refine ⟨_, pss_cons (ps_if (pt_not (pt_val (pe_callB call_isi (by rfl) T.isi bIsi (pa_cons (pe_fld (pv 0) rfl) (pa_cons (pe_bltn (by rfl) T.tup (v := .ty "tuple") (by decide +kernel) rfl) pa_nil)))))
      (pss_one (ps_ret (pe_lst pa_nil))) pss_nil)
    (pss_one (ps_ret (pe_lc (own := [("part", 1)]) (g := gName 1) (tt := tYes) (by rfl) scTParts.nd (pi_tup (pe_fld (pv 0) rfl)) (blkOk_by (own := [("part", 1)]) (N := nmTParts) (sc := defScope sTParts) (by decide +kernel)) (fun _ _ _ _ _ => pg_name (i := 1) scTParts.nd rfl (Or.inl rfl)) (fun _ _ _ _ _ => pts_nil)
        (fun _ _ _ _ _ => pe_make M3 G3 hr rfl TK.mgC b3 .nil pass0 (pa_cons (pe_call G2 r3 rfl m2 k2 b2 .nil pass0 (pa_cons (pv 1) pa_nil)) pa_nil))))), ?_⟩
  obtain ⟨hf, hd, dx, v, l, qq, r, ws, ns, h1, h2, _⟩ := ht
  obtain ⟨u, c, hty, hk, hc⟩ := isT (K := K) h2
  refine ⟨_, rfl, p, C, dx, _, _, rfl, h1, TK.cl, TK.n1, tfs_tree _ _ _ _ _ _ _, _, _, _, _, _, rfl, .ty "tuple", hty, hk, _, rfl, ?_⟩
  rcases hc with ⟨rfl, a, b', c, d, rfl⟩ | ⟨rfl, hc⟩
  · refine iteF ?_
    cases h2 with
    | ch hp ha hb hc hdd =>
      rename_i p2 y0 y1 y2 y3
      obtain ⟨fa, fb, fc, fdd⟩ := hf
      have dd : a.deep ≤ 2 ∧ b'.deep ≤ 2 ∧ c.deep ≤ 2 ∧ d.deep ≤ 2 := by
        simp only [Tr.deep] at hd
        omega
      refine ⟨_, rfl, p, C, dx, _, _, rfl, h1, TK.cl, TK.n1, tfs_tree _ _ _ _ _ _ _, p2, rfl, ⟨_, SqT.of hp⟩, fun D hD => lc_eachT (K := K) (IsTerm C) (ts := [a, b', c, d]) hp rfl (by show 4 ≤ 1000; decide) hD (fun _ => rfl) (fun i x t H1 G hx ht s1 hLs hG => ?_) (fun H1 ys s1 d1 e1 => q D ys H1 s1 hD d1 e1)⟩
      · have mk : ∀ (x' : V) (t' : Tr), TrAt H x' t' → t'.fine → t'.deep ≤ 2 → x = x' → t = t' → (∃ v, ((wipe (L2.start nmTParts [V.ref p]) [1]).set 1 (some x))[1]? = some (some v) ∧ spText 3 ([v] ++ []) H1 (fun y H2 => ∀ a dx, H2 a = none → H2 dx = none → dx ≠ a → spTInit C (.ref a :: ([y] ++ [])) (upd (upd H2 dx (.own a)) a (.ins C dx [])) (fun v H3 => v = .non ∧ G (.ref a) H3) E0) E0) := by
          intro x' t' hx' hf' hd' e1 e2
          subst e1 e2
          refine ⟨_, rfl, x, t, rfl, hx'.same s1, hf'.small, by omega, Nat.le_trans (text315 hf' (by omega)) (by decide), fun H2 s2 => ?_⟩
          exact make_read (.inl rfl) hf' (by omega) fun H3 a s3 na h3 => hG _ H3 (s2.trans s3) fun H4 s4 => ⟨a, rfl, h3 [D] (fun b m => let ⟨ys, e⟩ := hLs b m; ⟨ys, s2 _ _ e⟩) H4 s4⟩
        rcases i with _ | _ | _ | _ | i
        · cases hx
          cases ht
          exact mk _ _ ha fa dd.1 rfl rfl
        · cases hx
          cases ht
          exact mk _ _ hb fb dd.2.1 rfl rfl
        · cases hx
          cases ht
          exact mk _ _ hc fc dd.2.2.1 rfl rfl
        · cases hx
          cases ht
          exact mk _ _ hdd fdd dd.2.2.2 rfl rfl
        · simp at hx
  · refine iteT ?_
    refine ⟨by show 0 ≤ sizeLine; decide, fun l hl => q l [] _ (same_upd hl _) hl upd_same ?_⟩
    rcases hc with ⟨n, rfl, rfl⟩ | ⟨x, rfl, rfl⟩ <;> exact Each.nil
end
end TS
namespace TS
open PySem L2
abbrev sPool : Stmt := top 28
abbrev sTake : Stmt := top 29
/-- a pool's list: what is left of the cell, and the mixed number -/
def PoolAt (H : Hp) (p : Addr) : Prop := ∃ x y : Int, H p = some (.lst [.int x, .int y]) ∧ 0 ≤ x ∧ 0 ≤ y ∧ y < 2147483647
def spPool (K : PySem.W.Frag) : Sp := fun vs H Q _ => ∃ (a : Addr) (ns : List Int) (k : Int), vs = [.ref a, .int k] ∧ SqL K H a (ns.map V.int) ∧ 0 ≤ k ∧ k ≤ 1000 ∧
  ∀ (p : Addr) (x y : Int), H p = none → 0 ≤ x → 0 ≤ y → y < 2147483647 → Q (.ref p) (upd H p (.lst [.int x, .int y]))
def spTake : Sp := fun vs H Q _ => ∃ (p : Addr) (x y b : Int), vs = [.ref p, .int b] ∧ H p = some (.lst [.int x, .int y]) ∧ 0 ≤ x ∧ 0 ≤ y ∧ y < 2147483647 ∧ 0 < b ∧ b ≤ 1000000000 ∧
  ∀ (r x' y' : Int), 0 ≤ r → r < b → 0 ≤ x' → 0 ≤ y' → y' < 2147483647 → Q (.int r) (upd H p (.lst [.int x', .int y']))
section
variable {P : Program} {w : World} {K : PySem.W.Frag} {mg : Str → Option Value} {base : Heap}
theorem oneB (b : Bool) : (-(2 ^ 64) < (if b = true then (1 : Int) else 0) ∧ (if b = true then (1 : Int) else 0) < 2 ^ 64) ∧ 0 ≤ (if b = true then (1 : Int) else 0) := by
  cases b <;> decide
theorem scPool : FnScope ["script", "k", "cell", "size", "mixed"] ["script", "k"] (defScope sPool) := ⟨rfl, rfl, rfl, by decide +kernel, rfl, by decide +kernel, by decide +kernel⟩
theorem ok_pool {f : Addr} {fd : FuncData} (F : Fun K "_law_pool" "_law_pool" sPool f fd) (T : BltT mg) : FnOk P w K mg base CX0 1 f fd ["script", "k"] (spPool K) := by
  refine F.ok scPool (fun vs H Q E h => ?_) (fun cdv A outer s H vs Q E hr h => ?_)
  · obtain ⟨a, ns, k, rfl, _⟩ := h
    rfl
  obtain ⟨a, ns, k, rfl, hS, k0, k1, q⟩ := h
  refine ⟨_, pss_cons (ps_set (i := 2) scPool.nd rfl (.inl rfl) pe_int)
    (pss_cons (ps_if (pt_cmpR op_lt (pv 1) (pe_callB call_len_seq (by rfl) T.len PySem.boot_len (pa_cons (pv 0) pa_nil)) (nomark _)) (pss_one (ps_set (i := 2) scPool.nd rfl (.inl rfl) (pe_ix ix_list (pv 0) (pv 1) (fun _ _ => rfl)))) pss_nil)
    (pss_cons (ps_set (i := 3) scPool.nd rfl (.inl rfl) (pe_callB (call_max2 rfl) (by rfl) T.max (by decide +kernel) (pa_cons (pe_callTy call_int1 (by rfl) T.int (by decide +kernel) (pa_cons (pv 2) pa_nil))
        (pa_cons (pe_callTy call_int1 (by rfl) T.int (by decide +kernel) (pa_cons (pe_op op_sub (pe_un un_neg pe_int) (pv 2)) pa_nil)) pa_nil))))
    (pss_cons (ps_set (i := 4) scPool.nd rfl (.inl rfl) (pe_op op_mod (pe_callTy call_int1 (by rfl) T.int (by decide +kernel) (pa_cons (pe_op op_mul
        (pe_op op_add (pe_op op_add (pe_op op_add (pe_op op_mod (pe_callTy call_int1 (by rfl) T.int (by decide +kernel) (pa_cons (pv 3) pa_nil)) pe_int) (pe_op op_mul (pe_op op_mul pe_int (pv 1)) (pv 1))) (pe_op op_mul pe_int (pv 1))) pe_int) pe_int) pa_nil)) pe_int))
    (pss_one (ps_ret (pe_lst (pa_cons (pe_op op_mul (pv 3) (pe_callTy call_int1 (by rfl) T.int (by decide +kernel) (pa_cons (pe_cmpR op_ge (pv 3) (pe_op op_pow pe_int pe_int) (nomark _)) pa_nil))) (pa_cons (pv 4) pa_nil)))))))), ?_⟩
  have hl : (ns.map V.int).length = ns.length := List.length_map _
  refine ⟨_, rfl, _, rfl, a, _, rfl, .inl hS, _, _, rfl, rfl, _, rfl, ?_⟩
  have hsz : ∀ c : Int, 0 ≤ (if -1 - c > c then -1 - c else c) := fun c => by
    split <;> omega
  have hat : k < (((ns.map V.int).length : Nat) : Int) → ∃ v, atI (ns.map V.int) k = some (.int v) := fun c => by
    rw [hl] at c
    have hk : k.toNat < ns.length := by omega
    have z : atI (ns.map V.int) ((k.toNat : Nat) : Int) = some (.int ns[k.toNat]) := atI_nat (by rw [List.getElem?_map, List.getElem?_eq_getElem hk] <;> rfl)
    rw [show ((k.toNat : Nat) : Int) = k by omega] at z
    exact ⟨_, z⟩
  refine ite2 (fun c => ?_) (fun c => ?_)
  · obtain ⟨v, hv⟩ := hat (of_decide_eq_true c)
    refine ⟨_, rfl, _, rfl, a, _, _, _, rfl, rfl, hS, hv, ?_⟩
    refine ⟨_, rfl, .inl ⟨_, rfl, _, rfl, _, rfl, _, _, rfl, rfl, .inl ⟨_, rfl, _, _, rfl, ?_⟩⟩⟩
    refine ⟨_, rfl, .inl ⟨_, rfl, _, _, rfl, rfl, (by show (0 : Int) < 2147483629; decide), _, rfl, _, _, rfl, rfl, .inl (by decide), _, rfl, _, _, rfl, rfl, .inr ⟨by omega, by omega⟩, _, _, rfl, rfl, _, rfl, _, _, rfl, rfl, .inl (by decide), _, _, rfl, rfl, _, _, rfl, rfl, _, _, rfl, rfl, .inr (by decide), .inl ⟨_, rfl, _, _, rfl, rfl, (by show (0 : Int) < 2147483647; decide), ?_⟩⟩⟩
    refine ⟨_, rfl, _, rfl, _, _, rfl, rfl, ⟨by decide, by decide, by decide⟩, _, _, rfl, rfl, .inr ⟨_, rfl, _, _, rfl, rfl, .inr (oneB _).1, _, rfl, (by show 2 ≤ sizeLine; decide), fun p hp => ?_⟩⟩
    exact q p _ _ hp (Int.mul_nonneg (hsz v) (oneB _).2) (Int.emod_nonneg _ (by decide)) (Int.emod_lt_of_pos _ (by decide))
  · refine ⟨_, rfl, .inl ⟨_, rfl, _, rfl, _, rfl, _, _, rfl, rfl, .inl ⟨_, rfl, _, _, rfl, ?_⟩⟩⟩
    refine ⟨_, rfl, .inl ⟨_, rfl, _, _, rfl, rfl, (by show (0 : Int) < 2147483629; decide), _, rfl, _, _, rfl, rfl, .inl (by decide), _, rfl, _, _, rfl, rfl, .inr ⟨by omega, by omega⟩, _, _, rfl, rfl, _, rfl, _, _, rfl, rfl, .inl (by decide), _, _, rfl, rfl, _, _, rfl, rfl, _, _, rfl, rfl, .inr (by decide), .inl ⟨_, rfl, _, _, rfl, rfl, (by show (0 : Int) < 2147483647; decide), ?_⟩⟩⟩
    refine ⟨_, rfl, _, rfl, _, _, rfl, rfl, ⟨by decide, by decide, by decide⟩, _, _, rfl, rfl, .inr ⟨_, rfl, _, _, rfl, rfl, .inr (oneB _).1, _, rfl, (by show 2 ≤ sizeLine; decide), fun p hp => ?_⟩⟩
    exact q p _ _ hp (Int.mul_nonneg (hsz 0) (oneB _).2) (Int.emod_nonneg _ (by decide)) (Int.emod_lt_of_pos _ (by decide))
theorem scTake : FnScope ["pool", "bound", "result"] ["pool", "bound"] (defScope sTake) := ⟨rfl, rfl, rfl, by decide +kernel, rfl, by decide +kernel, by decide +kernel⟩
theorem ok_take {f : Addr} {fd : FuncData} (F : Fun K "_law_take" "_law_take" sTake f fd) (T : BltT mg) : FnOk P w K mg base CX0 1 f fd ["pool", "bound"] spTake := by
  refine F.ok scTake (fun vs H Q E h => ?_) (fun cdv A outer s H vs Q E hr h => ?_)
  · obtain ⟨p, x, y, b, rfl, _⟩ := h
    rfl
  obtain ⟨p, x, y, b, rfl, hp, x0, y0, y1, b0, b1, q⟩ := h
  have ix0 : ∀ {H' : Hp} {x' y' : Int}, H' p = some (.lst [.int x', .int y']) → SqL K H' p [.int x', .int y'] := fun h => SqL.of h
  refine ⟨_, pss_cons (ps_if (pt_cmpR op_gt (pe_ix ix_list (pv 0) pe_int (fun _ _ => rfl)) pe_int (nomark _))
      (pss_cons (ps_set (i := 2) scTake.nd rfl (.inl rfl) (pe_op op_mod (pe_callTy call_int1 (by rfl) T.int (by decide +kernel) (pa_cons (pe_ix ix_list (pv 0) pe_int (fun _ _ => rfl)) pa_nil)) (pv 1)))
      (pss_cons (ps_asg (pe_op op_fdiv (pe_ix ix_list (pv 0) pe_int (fun _ _ => rfl)) (pv 1)) (pg_sub (pv 0) pe_int set_list))
      (pss_one (ps_ret (pv 2))))) pss_nil)
    (pss_cons (ps_asg (pe_op op_mod (pe_callTy call_int1 (by rfl) T.int (by decide +kernel) (pa_cons (pe_op op_add (pe_op op_mul (pe_ix ix_list (pv 0) pe_int (fun _ _ => rfl)) pe_int) pe_int) pa_nil)) pe_int) (pg_sub (pv 0) pe_int set_list))
    (pss_one (ps_ret (pe_op op_mod (pe_callTy call_int1 (by rfl) T.int (by decide +kernel) (pa_cons (pe_op op_fdiv (pe_op op_mod (pe_callTy call_int1 (by rfl) T.int (by decide +kernel) (pa_cons (pe_op op_mul (pe_ix ix_list (pv 0) pe_int (fun _ _ => rfl)) (pe_ix ix_list (pv 0) pe_int (fun _ _ => rfl))) pa_nil)) pe_int) pe_int) pa_nil)) (pv 1))))), ?_⟩
  refine ⟨_, rfl, p, _, _, _, rfl, rfl, ix0 hp, rfl, _, _, rfl, rfl, _, rfl, ?_⟩
  refine ite2 (fun c => ?_) (fun c => ?_)
  · refine ⟨_, rfl, p, _, _, _, rfl, rfl, ix0 hp, rfl, .inl ⟨_, rfl, _, rfl, _, _, rfl, rfl, b0, ?_⟩⟩
    refine ⟨_, rfl, p, _, _, _, rfl, rfl, ix0 hp, rfl, _, rfl, _, _, rfl, rfl, ⟨b0, by omega⟩, _, rfl, p, _, _, 0, rfl, rfl, hp, rfl, _, rfl, ?_⟩
    exact q (x % b) (x / b) y (Int.emod_nonneg _ (by omega)) (Int.emod_lt_of_pos _ b0) (Int.ediv_nonneg x0 (by omega)) y0 y1
  · refine ⟨_, rfl, p, _, _, _, rfl, rfl, ix0 hp, rfl, _, _, rfl, rfl, .inr (by decide), _, _, rfl, rfl, .inl ⟨_, rfl, _, _, rfl, rfl, (by show (0 : Int) < 2147483647; decide), _, rfl, p, _, _, 1, rfl, rfl, hp, rfl, ?_⟩⟩
    have hp' : ∀ z : Int, (upd H p (.lst [.int x, .int z])) p = some (.lst [.int x, .int z]) := fun z => upd_same
    have z0 : 0 ≤ (y * 39373 + 7) % 2147483647 := Int.emod_nonneg _ (by decide)
    have z1 : (y * 39373 + 7) % 2147483647 < 2147483647 := Int.emod_lt_of_pos _ (by decide)
    refine ⟨_, rfl, p, _, _, _, rfl, rfl, ix0 (hp' _), rfl, _, rfl, p, _, _, _, rfl, rfl, ix0 (hp' _), rfl, _, _, rfl, rfl, .inl ⟨by omega, by omega⟩, .inl ⟨_, rfl, _, _, rfl, rfl, (by show (0 : Int) < 2147483629; decide), _, _, rfl, rfl, ⟨by decide, by decide⟩, .inl ⟨_, rfl, _, rfl, _, _, rfl, rfl, b0, ?_⟩⟩⟩
    exact q _ x _ (Int.emod_nonneg _ (by omega)) (Int.emod_lt_of_pos _ b0) x0 z0 z1
end
end TS
namespace TS
open PySem L2
abbrev sOne : Stmt := top 30
abbrev sWords : Stmt := top 31
abbrev sLTree : Stmt := top 32
abbrev sLText : Stmt := top 33
section
variable {P : Program} {w : World} {K : PySem.W.Frag} {mg : Str → Option Value} {base : Heap}
/-- the pool is changed alone -/
def PoolOff (p : Addr) (H H' : Hp) : Prop := SameOff [p] H H' ∧ PoolAt H' p
theorem PoolOff.trans {p : Addr} {H H1 H2 : Hp} (a : PoolOff p H H1) (b : PoolOff p H1 H2) : PoolOff p H H2 := ⟨a.1.trans b.1, b.2⟩
theorem PoolAt.lst {H : Hp} {p : Addr} (h : PoolAt H p) : ∃ xs, H p = some (.lst xs) := let ⟨x, y, e, _⟩ := h; ⟨_, e⟩
theorem PoolAt.same {H H' : Hp} {p : Addr} (h : PoolAt H p) (s : Same H H') : PoolAt H' p := let ⟨x, y, e, r⟩ := h; ⟨x, y, s _ _ e, r⟩
theorem PoolAt.some {H : Hp} {p : Addr} (h : PoolAt H p) : H p ≠ none := by
  obtain ⟨x, y, e, _⟩ := h
  rw [e]
  intro z
  cases z
theorem PoolAt.ne {H : Hp} {p D : Addr} (h : PoolAt H p) (hD : H D = none) : D ≠ p := fun e => h.some (by rw [← e]; exact hD)
theorem off_free {Ds : List Addr} {H H' : Hp} (s : SameOff Ds H H') {l : Addr} (h : H' l = none) (n : l ∉ Ds) : H l = none := by
  cases q : H l with
  | none => rfl
  | some o =>
    have := s l o q n
    rw [h] at this
    cases this
theorem PoolOff.free {p : Addr} {H H' : Hp} (s : PoolOff p H H') {l : Addr} (h : H' l = none) : H l = none := off_free s.1 h (by simpa using s.2.ne h)
theorem pool_lists {H : Hp} {p : Addr} (h : PoolAt H p) : Lists [p] H := fun D m => by
  rw [List.mem_singleton.mp m]
  exact h.lst
/-! _law_one -/
def spOne (K : PySem.W.Frag) : Sp := fun vs H Q _ => ∃ (p : Addr) (x : V), vs = [.ref p, x] ∧ PoolAt H p ∧
  ((∃ (l : Addr) (xs : List V), x = .ref l ∧ l ≠ p ∧ SqL K H l xs ∧ 0 < xs.length ∧ xs.length ≤ 1000 ∧ ∀ (H' : Hp) (i : Nat) (v : V), xs[i]? = some v → PoolOff p H H' → Q v H') ∨
   (∃ z : Str, x = .str z ∧ 0 < z.length ∧ z.length ≤ 1000 ∧ ∀ (H' : Hp) (c : Nat), c ∈ z.cps.toList → PoolOff p H H' → Q (.str ⟨#[c]⟩) H'))
theorem scOne : FnScope ["pool", "things"] ["pool", "things"] (defScope sOne) := ⟨rfl, rfl, rfl, by decide +kernel, rfl, by decide +kernel, by decide +kernel⟩
theorem pool_upd {H : Hp} {p : Addr} {x' y' : Int} (h0 : 0 ≤ x') (h1 : 0 ≤ y') (h2 : y' < 2147483647) : PoolOff p H (upd H p (.lst [.int x', .int y'])) :=
  ⟨off_upd (SameOff.refl _ _) (by simp), x', y', upd_same, h0, h1, h2⟩
theorem ok_one {f : Addr} {fd : FuncData} (F : Fun K "_law_one" "_law_one" sOne f fd) (T : BltT mg) (D1 : Has P w K mg base "_law_take" 1 ["pool", "bound"] spTake) : FnOk P w K mg base CX0 2 f fd ["pool", "things"] (spOne K) := by
  obtain ⟨f1, fd1, m1, k1, b1, G1⟩ := D1
  refine F.ok scOne (fun vs H Q E h => ?_) (fun cdv A outer s H vs Q E hr h => ?_)
  · obtain ⟨p, x, rfl, _⟩ := h
    rfl
  obtain ⟨p, x, rfl, hp, q⟩ := h
  refine ⟨_, pss_one (ps_ret (pe_ix ix_seq (pv 1) (pe_call G1 hr rfl m1 k1 b1 .nil pass0 (pa_cons (pv 0) (pa_cons (pe_callB call_len (by rfl) T.len PySem.boot_len (pa_cons (pv 1) pa_nil)) pa_nil))) (fun _ _ => rfl))), ?_⟩
  obtain ⟨a, b, ep, a0, b0, b1'⟩ := id hp
  rcases q with ⟨l, xs, rfl, nl, hl, l0, l1, q⟩ | ⟨z, rfl, l0, l1, q⟩
  · refine ⟨_, rfl, _, rfl, _, rfl, .ref l, xs.length, rfl, .inl ⟨xs, hl, rfl⟩, p, a, b, _, rfl, ep, a0, b0, b1', by omega, by omega, fun r x' y' r0 r1 x0 y0 y1 => ?_⟩
    have hr1 : r.toNat < xs.length := by omega
    refine .inl ⟨l, xs, _, xs[r.toNat], rfl, rfl, ?_, ?_, q _ _ _ (List.getElem?_eq_getElem hr1) (pool_upd x0 y0 y1)⟩
    · have : SameOff [p] H (upd H p (.lst [.int x', .int y'])) := off_upd (SameOff.refl _ _) (by simp)
      rcases hl with (h | ⟨o, h⟩) | h
      · exact .inl (.inl (this _ _ h (by simpa using nl)))
      · exact .inl (.inr ⟨o, this _ _ h (by simpa using nl)⟩)
      · exact .inr h
    · have z : atI xs ((r.toNat : Nat) : Int) = some xs[r.toNat] := atI_nat (List.getElem?_eq_getElem hr1)
      rw [show ((r.toNat : Nat) : Int) = r by omega] at z
      exact z
  · have big : z.length ≤ sizeLine := Nat.le_trans l1 (by decide)
    refine ⟨_, rfl, _, rfl, _, rfl, .str z, z.length, rfl, ⟨big, rfl⟩, p, a, b, _, rfl, ep, a0, b0, b1', by omega, by omega, fun r x' y' r0 r1 x0 y0 y1 => ?_⟩
    have hr1 : r.toNat < z.cps.toList.length := by rw [len_codes]; omega
    refine .inr (.inr ⟨z, _, z.cps.toList[r.toNat], rfl, rfl, big, ?_, q _ _ (List.getElem_mem hr1) (pool_upd x0 y0 y1)⟩)
    have z1 : atI z.cps.toList ((r.toNat : Nat) : Int) = some z.cps.toList[r.toNat] := atI_nat (List.getElem?_eq_getElem hr1)
    rw [show ((r.toNat : Nat) : Int) = r by omega] at z1
    exact z1
end
end TS
namespace TS
open PySem L2
section
variable {P : Program} {w : World} {K : PySem.W.Frag} {mg : Str → Option Value} {base : Heap}
/-- [e for k in range(n)], e a call that changes the pool alone -/
theorem lc_poolR (R : Nat → Hp → V → Prop) {p D : Addr} {lo : Int} {n k : Nat} {te : TE} {σ : St} {H : Hp} {Qd : Hp → Prop} (hp : PoolAt H p) (hD : H D = none) (hn : n ≤ 1000)
    (hw : ∀ v, wipe ((wipe σ [k]).set k v) [k] = wipe σ [k])
    (step : ∀ (i : Nat) (H1 : Hp) (G : VK), i < n → PoolOff p H H1 → Lists [p, D] H1 → (∀ (y : V) H2, PoolOff p H1 H2 → (∀ H3, SameOff [p, D] H2 H3 → R i H3 y) → G y H2) → te ((wipe σ [k]).set k (some (.int (lo + i)))) H1 G)
    (hd : ∀ H1 ys, PoolOff p H H1 → H1 D = some (.lst ys) → ys.length = n → (∀ i y, ys[i]? = some y → R i H1 y) → Qd H1) :
    ∃ W : Nat → Nat → Hp → Prop, (∃ m, W 0 m (upd H D (.lst []))) ∧ ∀ i m H, W i m H →
      ((Itr lo n).stop i H ∧ Qd H) ∨ ((Itr lo n).go i H ∧ ∃ Nx : Hp → Prop, (∀ H', Nx H' → ∃ m', m' < m ∧ W (i + 1) m' H') ∧ ∀ x H', (Itr lo n).yld i H x H' → gName k x (wipe σ [k]) H' fun σ2 H2 => wipe σ2 [k] = wipe σ [k] ∧ tYes σ2 H2 fun b H3 =>
        if b = true then te σ2 H3 fun y H4 => ∃ acc, H4 D = some (.lst acc) ∧ acc.length < sizeLine ∧ Nx (upd H4 D (.lst (acc ++ [y]))) else Nx H3) := by
  have nD : D ≠ p := hp.ne hD
  refine lc_range (lo := lo) (n := n) (fun i H1 => PoolOff p H H1 ∧ ∃ ys, H1 D = some (.lst ys) ∧ ys.length = i ∧ ∀ j y, ys[j]? = some y → ∀ H3, SameOff [p, D] H1 H3 → R j H3 y) ⟨⟨off_new (SameOff.refl _ _) hD, hp.same (same_upd hD _)⟩, [], upd_same, rfl, fun j y h => by simp at h⟩ (fun i H1 hi z => ?_) (fun H1 z => ?_)
  · obtain ⟨s1, ys, d1, l1, e1⟩ := z
    refine ⟨hw _, ?_⟩
    unfold tYes
    dsimp only
    rw [if_pos rfl]
    refine step i H1 _ hi s1 (fun b m => ?_) fun y H2 s2 r2 => ?_
    · simp only [List.mem_cons, List.not_mem_nil, or_false] at m
      rcases m with rfl | rfl
      · exact s1.2.lst
      · exact ⟨ys, d1⟩
    have d2 : H2 D = some (.lst ys) := s2.1 _ _ d1 (by simpa using nD)
    refine ⟨ys, d2, small1000 (by omega), ⟨fun b o q hb => ?_, ?_⟩, ys ++ [y], upd_same, by simp [l1], fun j y' hj H3 s3 => ?_⟩
    · rw [upd_ne (ne_of_none q hD)]
      exact s2.1 _ _ (s1.1 _ _ q hb) hb
    · obtain ⟨a, b, e, r⟩ := s2.2
      exact ⟨a, b, by rw [upd_ne nD.symm]; exact e, r⟩
    · have off2 : SameOff [p, D] H2 H3 := (off_upd (SameOff.refl _ _) (by simp)).trans s3
      by_cases hj' : j < ys.length
      · rw [List.getElem?_append_left hj'] at hj
        exact e1 j y' hj H3 ((show SameOff [p, D] H1 H2 from fun b o q hb => s2.1 b o q (by simp at hb ⊢; exact hb.1)).trans off2)
      · rw [List.getElem?_append_right (by omega)] at hj
        cases hq : j - ys.length with
        | zero =>
          rw [hq] at hj
          simp at hj
          subst hj
          have : j = i := by omega
          subst this
          exact r2 H3 off2
        | succ q =>
          rw [hq] at hj
          simp at hj
  · obtain ⟨s1, ys, d1, l1, e1⟩ := z
    exact hd H1 ys s1 d1 l1 fun i y hi => e1 i y hi H1 (SameOff.refl _ _)
/-- a text of letters -/
def Lets (x : Str) : Prop := ∀ c ∈ x.cps.toList, isLet c = true
theorem lets_app {a b : Str} (ha : Lets a) (hb : Lets b) : Lets (a ++ b) := fun c h => by
  rw [codes_append] at h
  rcases List.mem_append.mp h with h | h
  · exact ha c h
  · exact hb c h
theorem lets_one {c : Nat} (h : isLet c = true) : Lets ⟨#[c]⟩ := fun d hd => by
  have : d = c := by simpa using hd
  rw [this]
  exact h
theorem len_one (c : Nat) : (⟨#[c]⟩ : Str).length = 1 := rfl
theorem len_app (a b : Str) : (a ++ b).length = a.length + b.length := Str.length_append a b
theorem join_lets0 {e : Str} (he : e.cps.toList = []) : ∀ (ys : List Str), (∀ y ∈ ys, Lets y ∧ y.length = 1) → Lets (Str.join e ys) ∧ (Str.join e ys).length = ys.length
  | [], _ => ⟨fun c h => (by cases h), rfl⟩
  | [y], h => h y (by simp)
  | x :: y :: r, h => by
    have ih := join_lets0 he (y :: r) fun z hz => h z (by simp [hz])
    have hx := h x (by simp)
    have le : e.length = 0 := by rw [← len_codes, he]; rfl
    have ee : Lets e := fun c hc => by rw [he] at hc; cases hc
    show Lets (x ++ e ++ Str.join e (y :: r)) ∧ (x ++ e ++ Str.join e (y :: r)).length = _
    refine ⟨lets_app (lets_app hx.1 ee) ih.1, ?_⟩
    rw [len_app, len_app, ih.2, hx.2, le]
    simp only [List.length_cons]
    omega
theorem join_lets {e : Str} (he : e.cps.toList = []) (ys : List Str) (h : ∀ y ∈ ys, Lets y ∧ y.length = 1) : Lets (Txt.join e ys) ∧ (Txt.join e ys).length = ys.length := by
  rw [TL.join_eq]
  exact join_lets0 he ys h
theorem sum_len1 : ∀ (ys : List Str), (∀ y ∈ ys, Lets y ∧ y.length = 1) → (ys.map (·.length)).sum = ys.length
  | [], _ => rfl
  | y :: r, h => by
    have ih := sum_len1 r fun z hz => h z (by simp [hz])
    have hy := (h y (by simp)).2
    simp only [List.map_cons, List.sum_cons, List.length_cons, ih, hy]
    omega
/-- a row of texts, told item by item -/
theorem texts_of {φ : Str → Prop} : ∀ (ys : List V), (∀ y ∈ ys, ∃ x, y = V.str x ∧ φ x) → ∃ xs : List Str, ys = xs.map V.str ∧ ∀ x ∈ xs, φ x
  | [], _ => ⟨[], rfl, fun x h => by cases h⟩
  | y :: r, h => by
    obtain ⟨xs, e, hx⟩ := texts_of r fun z hz => h z (by simp [hz])
    obtain ⟨x, rfl, p⟩ := h y (by simp)
    exact ⟨x :: xs, by rw [e]; rfl, fun z hz => by rcases List.mem_cons.mp hz with rfl | hz; exact p; exact hx z hz⟩
theorem texts_at {φ : Str → Prop} {ys : List V} (h : ∀ (i : Nat) y, ys[i]? = some y → ∃ x, y = V.str x ∧ φ x) : ∃ xs : List Str, ys = xs.map V.str ∧ ∀ x ∈ xs, φ x :=
  texts_of ys fun y hy => by
    obtain ⟨i, hi, e⟩ := List.getElem_of_mem hy
    exact h i y (by rw [← e]; exact List.getElem?_eq_getElem hi)
/-! _law_words -/
structure BltU (mg : Str → Option Value) : Prop where
  range : mg "range" = none
  list : mg "list" = none
  min : mg "min" = none
  enum : mg "enumerate" = none
abbrev nmWords : List Str := ["pool", "bound", "letters", "first", "stride", "head", "turn", "tail", "spot"]
theorem scWords : FnScope nmWords ["pool", "bound"] (defScope sWords) := ⟨rfl, rfl, rfl, by decide +kernel, rfl, by decide +kernel, by decide +kernel⟩
def spWords : Sp := fun vs H Q _ => ∃ (p : Addr) (n : Nat), vs = [.ref p, .int n] ∧ PoolAt H p ∧ n ≤ 26 ∧
  ∀ (H' : Hp) (l : Addr) (ws : List Str), PoolOff p H H' → H l = none → H' l = some (.lst (ws.map V.str)) → ws.length = n → (∀ x ∈ ws, WordOk x ∧ x.length ≤ 5) → Q (.ref l) H'
abbrev abc : Str := "abcdefghijklmnopqrstuvwxyz"
theorem abc_len : abc.length = 26 := by decide +kernel
theorem abc_let {c : Nat} (h : c ∈ abc.cps.toList) : isLet c = true := decide_eq_true h
theorem strides_len : ([.int 1, .int 3, .int 5, .int 7, .int 9, .int 11, .int 15, .int 17, .int 19, .int 21, .int 23, .int 25] : List V).length = 12 := rfl
theorem strides_int : ∀ (i : Nat) (v : V), ([.int 1, .int 3, .int 5, .int 7, .int 9, .int 11, .int 15, .int 17, .int 19, .int 21, .int 23, .int 25] : List V)[i]? = some v → ∃ k : Int, v = .int k ∧ 0 ≤ k ∧ k ≤ 25 := by
  intro i v h
  rcases i with _ | _ | _ | _ | _ | _ | _ | _ | _ | _ | _ | _ | i <;> simp at h <;> (subst h; exact ⟨_, rfl, by decide, by decide⟩)
theorem ok_words {f : Addr} {fd : FuncData} (F : Fun K "_law_words" "_law_words" sWords f fd) (T : BltT mg) (U : BltU mg) (D1 : Has P w K mg base "_law_take" 1 ["pool", "bound"] spTake) (D2 : Has P w K mg base "_law_one" 2 ["pool", "things"] (spOne K)) :
    FnOk P w K mg base CX0 3 f fd ["pool", "bound"] spWords := by
  obtain ⟨f1, fd1, m1, k1, b1, G1⟩ := D1
  obtain ⟨f2, fd2, m2, k2, b2, G2⟩ := D2
  refine F.ok scWords (fun vs H Q E h => ?_) (fun cdv A outer s H vs Q E hr h => ?_)
  · obtain ⟨p, n, rfl, _⟩ := h
    rfl
  obtain ⟨p, n, rfl, hp, hn, q⟩ := h
  have r1 : Room 1 _ := hr.mono (by decide)
  refine ⟨_, pss_cons (ps_set (i := 2) scWords.nd rfl (.inr rfl) pe_str)
    (pss_cons (ps_asg (pe_tup (pa_cons (pe_call G1 r1 rfl m1 k1 b1 .nil pass0 (pa_cons (pv 0) (pa_cons pe_int pa_nil)))
      (pa_cons (pe_call G2 hr rfl m2 k2 b2 .nil pass0 (pa_cons (pv 0) (pa_cons (pe_lst (pa_cons pe_int (pa_cons pe_int (pa_cons pe_int (pa_cons pe_int (pa_cons pe_int (pa_cons pe_int (pa_cons pe_int (pa_cons pe_int (pa_cons pe_int (pa_cons pe_int (pa_cons pe_int (pa_cons pe_int pa_nil))))))))))))) pa_nil))) pa_nil))) (pg_tup (by rfl) (pgs_cons (pg_name (i := 3) scWords.nd rfl (.inr rfl)) (pgs_cons (pg_name (i := 4) scWords.nd rfl (.inr rfl)) pgs_nil))))
    (pss_cons (ps_set (i := 5) scWords.nd rfl (.inr rfl) (pe_join pe_str (pe_lc (own := [("turn", 6)]) (g := gName 6) (tt := tYes) (by rfl) scWords.nd (pi_range1 rfl U.range (pa_cons (pe_call G1 r1 rfl m1 k1 b1 .nil pass0 (pa_cons (pv 0) (pa_cons pe_int pa_nil))) pa_nil)) (blkOk_by (own := [("turn", 6)]) (N := nmWords) (sc := defScope sWords) (by decide +kernel)) (fun _ _ _ _ _ => pg_name (i := 6) scWords.nd rfl (Or.inl rfl)) (fun _ _ _ _ _ => pts_nil)
        (fun _ _ _ _ _ => pe_call G2 hr rfl m2 k2 b2 .nil pass0 (pa_cons (pv 0) (pa_cons (pv 2) pa_nil))))))
    (pss_cons (ps_set (i := 7) scWords.nd rfl (.inr rfl) (pe_join pe_str (pe_lc (own := [("turn", 6)]) (g := gName 6) (tt := tYes) (by rfl) scWords.nd (pi_range1 rfl U.range (pa_cons (pe_call G1 r1 rfl m1 k1 b1 .nil pass0 (pa_cons (pv 0) (pa_cons pe_int pa_nil))) pa_nil)) (blkOk_by (own := [("turn", 6)]) (N := nmWords) (sc := defScope sWords) (by decide +kernel)) (fun _ _ _ _ _ => pg_name (i := 6) scWords.nd rfl (Or.inl rfl)) (fun _ _ _ _ _ => pts_nil)
        (fun _ _ _ _ _ => pe_call G2 hr rfl m2 k2 b2 .nil pass0 (pa_cons (pv 0) (pa_cons (pv 2) pa_nil))))))
    (pss_one (ps_ret (pe_lc (own := [("spot", 8)]) (g := gName 8) (tt := tYes) (by rfl) scWords.nd (pi_range1 rfl U.range (pa_cons (pv 1) pa_nil)) (blkOk_by (own := [("spot", 8)]) (N := nmWords) (sc := defScope sWords) (by decide +kernel)) (fun _ _ _ _ _ => pg_name (i := 8) scWords.nd rfl (Or.inl rfl)) (fun _ _ _ _ _ => pts_nil)
        (fun _ _ _ _ _ => pe_op op_add_str (pe_op op_add_str (pv 5) (pe_ix ix_str (pv 2) (pe_op op_mod (pe_callTy call_int1 (by rfl) T.int (by decide +kernel) (pa_cons (pe_op op_add (pv 3) (pe_op op_mul (pv 4) (pv 8))) pa_nil)) pe_int) (fun _ _ => rfl))) (pv 7)))))))), ?_⟩
  have ab : ∀ {H' : Hp} {R : VK} {v : V}, PoolAt H' p → v = .str abc → (∀ H2 c, c ∈ abc.cps.toList → PoolOff p H' H2 → R (.str ⟨#[c]⟩) H2) → spOne K [.ref p, v] H' R E0 := fun h e g => ⟨p, _, rfl, h, .inr ⟨abc, e, by rw [abc_len]; decide, by rw [abc_len]; decide, g⟩⟩
  obtain ⟨a, b, ep, a0, b0, b1'⟩ := id hp
  -- first, stride
  refine ⟨_, rfl, p, a, b, 26, rfl, ep, a0, b0, b1', by decide, by decide, fun r x' y' r0 r1' x0 y0 y1 => ?_⟩
  have g1 : PoolOff p H (upd H p (.lst [.int x', .int y'])) := pool_upd x0 y0 y1
  generalize upd H p (.lst [.int x', .int y']) = H1 at g1
  refine ⟨_, rfl, by show 12 ≤ sizeLine; decide, fun l hl => ?_⟩
  have nl : l ≠ p := g1.2.ne hl
  have g2 : PoolOff p H1 (upd H1 l (.lst [.int 1, .int 3, .int 5, .int 7, .int 9, .int 11, .int 15, .int 17, .int 19, .int 21, .int 23, .int 25])) := ⟨off_new (SameOff.refl _ _) hl, g1.2.same (same_upd hl _)⟩
  refine ⟨p, .ref l, rfl, g2.2, .inl ⟨l, _, rfl, nl, SqL.of upd_same, by rw [strides_len]; decide, by rw [strides_len]; decide, fun H3 i v hv g3 => ?_⟩⟩
  obtain ⟨st, rfl, st0, st25⟩ := strides_int i v hv
  have g4 := (g1.trans g2).trans g3
  refine ⟨by show 2 ≤ sizeLine; decide, fun t ht => ?_⟩
  have g5 : PoolOff p H (upd H3 t (.tup [.int r, .int st])) := g4.trans ⟨off_new (SameOff.refl _ _) ht, g3.2.same (same_upd ht _)⟩
  refine ⟨t, _, rfl, SqT.of upd_same, rfl, _, _, rfl, _, _, rfl, rfl, ?_⟩
  generalize upd H3 t (.tup [.int r, .int st]) = H4 at g5
  -- head
  obtain ⟨ha, hb, he, ha0, hb0, hb1⟩ := id g5.2
  refine ⟨⟨_, rfl⟩, _, rfl, p, ha, hb, 3, rfl, he, ha0, hb0, hb1, by decide, by decide, fun r1 x1 y1 ra rb xa ya yb => ?_⟩
  have gg1 : PoolOff p H4 (upd H4 p (.lst [.int x1, .int y1])) := pool_upd xa ya yb
  generalize upd H4 p (.lst [.int x1, .int y1]) = H5 at gg1
  refine ⟨r1, rfl, by omega, by omega, fun D hD => lc_poolR (R := fun _ _ y => ∃ x : Str, y = .str x ∧ Lets x ∧ x.length = 1) gg1.2 hD (by omega) (fun _ => rfl) (fun i H1 G hi s1 hL hG => ?_) (fun H6 ys s1 d1 l1 hR => ?_)⟩
  · exact ⟨_, rfl, _, rfl, ab s1.2 rfl fun H2 c hc s2 => hG _ H2 s2 fun H3 s3 => ⟨_, rfl, lets_one (abc_let hc), rfl⟩⟩
  obtain ⟨ss1, rfl, st1⟩ := texts_at hR
  rw [List.length_map] at l1
  have jl1 := join_lets (e := ("" : Str)) (by decide +kernel) ss1 st1
  refine ⟨_, D, ss1, rfl, rfl, .inl (SqL.of d1), ?_, ?_⟩
  · have e1 := sum_len1 ss1 st1
    have e2 : ("" : Str).length = 0 := by decide +kernel
    rw [e1, e2]
    omega
  have jn1 : (Txt.join ("" : Str) ss1).length ≤ 2 := by rw [jl1.2]; omega
  replace jl1 := jl1.1
  generalize Txt.join ("" : Str) ss1 = hd1 at jl1 jn1
  have g6 := g5.trans (gg1.trans s1)
  clear hR st1 d1 l1 s1 gg1
  -- tail
  obtain ⟨ta, tb, te, ta0, tb0, tb1⟩ := id g6.2
  refine ⟨⟨_, rfl⟩, _, rfl, p, ta, tb, 3, rfl, te, ta0, tb0, tb1, by decide, by decide, fun r1 x1 y1 ra rb xa ya yb => ?_⟩
  have gg2 : PoolOff p H6 (upd H6 p (.lst [.int x1, .int y1])) := pool_upd xa ya yb
  generalize upd H6 p (.lst [.int x1, .int y1]) = H7 at gg2
  refine ⟨r1, rfl, by omega, by omega, fun D hD => lc_poolR (R := fun _ _ y => ∃ x : Str, y = .str x ∧ Lets x ∧ x.length = 1) gg2.2 hD (by omega) (fun _ => rfl) (fun i H1 G hi s1 hL hG => ?_) (fun H8 ys s1 d1 l1 hR => ?_)⟩
  · exact ⟨_, rfl, _, rfl, ab s1.2 rfl fun H2 c hc s2 => hG _ H2 s2 fun H3 s3 => ⟨_, rfl, lets_one (abc_let hc), rfl⟩⟩
  obtain ⟨ss2, rfl, st2⟩ := texts_at hR
  rw [List.length_map] at l1
  have jl2 := join_lets (e := ("" : Str)) (by decide +kernel) ss2 st2
  refine ⟨_, D, ss2, rfl, rfl, .inl (SqL.of d1), ?_, ?_⟩
  · have e1 := sum_len1 ss2 st2
    have e2 : ("" : Str).length = 0 := by decide +kernel
    rw [e1, e2]
    omega
  have jn2 : (Txt.join ("" : Str) ss2).length ≤ 2 := by rw [jl2.2]; omega
  replace jl2 := jl2.1
  generalize Txt.join ("" : Str) ss2 = tl1 at jl2 jn2
  have g7 := g6.trans (gg2.trans s1)
  clear hR st2 d1 l1 s1 gg2
  -- the words
  refine ⟨_, rfl, n, rfl, by omega, by omega, fun D hD => lc_poolR (R := fun _ _ y => ∃ x : Str, y = .str x ∧ WordOk x ∧ x.length ≤ 5) g7.2 hD (by omega) (fun _ => rfl) (fun i H1 G hi s1 hL hG => ?_) (fun H9 ys s1 d1 l1 hR => ?_)⟩
  · have m0 : 0 ≤ (r + st * (0 + (i : Int))) % 26 := Int.emod_nonneg _ (by decide)
    have m1 : (r + st * (0 + (i : Int))) % 26 < 26 := Int.emod_lt_of_pos _ (by decide)
    have hm : ((r + st * (0 + (i : Int))) % 26).toNat < abc.cps.toList.length := by
      rw [len_codes, abc_len]
      omega
    have z1 : atI abc.cps.toList ((((r + st * (0 + (i : Int))) % 26).toNat : Nat) : Int) = some abc.cps.toList[((r + st * (0 + (i : Int))) % 26).toNat] := atI_nat (List.getElem?_eq_getElem hm)
    rw [show ((((r + st * (0 + (i : Int))) % 26).toNat : Nat) : Int) = (r + st * (0 + (i : Int))) % 26 by omega] at z1
    have hc : isLet abc.cps.toList[((r + st * (0 + (i : Int))) % 26).toNat] = true := abc_let (List.getElem_mem hm)
    generalize abc.cps.toList[((r + st * (0 + (i : Int))) % 26).toNat] = c at z1 hc
    refine ⟨_, rfl, _, rfl, _, rfl, _, rfl, _, rfl, _, _, rfl, rfl, .inl ⟨by omega, by omega⟩, _, _, rfl, rfl, .inl ⟨_, rfl, _, _, rfl, rfl, by show (0 : Int) < 26; decide, ?_⟩⟩
    refine ⟨abc, _, c, rfl, rfl, by rw [abc_len]; decide, z1, ?_⟩
    refine ⟨_, _, rfl, rfl, ?_, _, rfl, _, _, rfl, rfl, ?_, ?_⟩
    · rw [len_one]
      exact Nat.le_trans (show _ ≤ 3 by omega) (by decide)
    · rw [len_app, len_one]
      exact Nat.le_trans (show _ ≤ 5 by omega) (by decide)
    · refine hG _ H1 ⟨SameOff.refl _ _, s1.2⟩ fun H3 s3 => ⟨_, rfl, ⟨?_, ?_, lets_app (lets_app jl1 (lets_one hc)) jl2⟩, ?_⟩
      · rw [len_app, len_app, len_one]
        omega
      · rw [len_app, len_app, len_one]
        omega
      · rw [len_app, len_app, len_one]
        omega
  obtain ⟨ws, rfl, hw⟩ := texts_at hR
  rw [List.length_map] at l1
  have g8 := g7.trans s1
  exact q H9 D ws g8 (g7.free hD) d1 (by omega) hw
end
end TS
namespace TS
open PySem L2
/-! data in the heap: trees, rows of texts, of numbers -/
def Tr.data : Tr → PyData
  | .num n => .int n
  | .wd x => .str x
  | .ch a b c d => .tuple [a.data, b.data, c.data, d.data]
/-- plain signs alone -/
def Plain (x : Str) : Prop := ∀ c ∈ x.cps.toList, c < 128
theorem Plain.ok {x : Str} (h : Plain x) : PyData.strOk x = true := by
  unfold PyData.strOk
  rw [← Array.all_toList]
  simp only [List.all_eq_true, decide_eq_true_eq]
  intro c hc
  have := h c hc
  omega
theorem plain_word {x : Str} (h : WordOk x) : Plain x := fun c hc => by
  have := isLet_iff.mp (h.2.2 c hc)
  omega
theorem plain_text : ∀ {t : Tr}, t.fine → Plain t.text
  | .num n, h => fun c hc => by
    have e : (Tr.num n).text.cps.toList = [48 + n.toNat] := codes_digit h.1 h.2
    rw [e] at hc
    have := h.2
    simp at hc
    omega
  | .wd x, h => plain_word h
  | .ch a b c d, h => fun k hk => by
    obtain ⟨h1, h2, h3, h4⟩ := h
    rw [codes_ch] at hk
    simp only [List.mem_cons, List.mem_append, List.not_mem_nil, or_false] at hk
    rcases hk with rfl | hk | rfl | hk | rfl | hk | rfl | hk | rfl
    · decide
    · exact plain_text h1 k hk
    · decide
    · exact plain_text h2 k hk
    · decide
    · exact plain_text h3 k hk
    · decide
    · exact plain_text h4 k hk
    · decide
theorem Tr.lay : ∀ {t : Tr}, t.fine → t.data.canLay0 = true
  | .num n, _ => by simp [Tr.data, PyData.canLay0]
  | .wd x, h => by simp [Tr.data, PyData.canLay0, (plain_word h).ok]
  | .ch a b c d, h => by simp [Tr.data, PyData.canLay0, PyData.canLayAll0, Tr.lay h.1, Tr.lay h.2.1, Tr.lay h.2.2.1, Tr.lay h.2.2.2]
theorem Tr.ddepth : ∀ t : Tr, t.data.depth + 1 ≤ t.deep + 1
  | .num n => by simp [Tr.data, PyData.depth, Tr.deep]
  | .wd x => by simp [Tr.data, PyData.depth, Tr.deep]
  | .ch a b c d => by
    have h1 := Tr.ddepth a
    have h2 := Tr.ddepth b
    have h3 := Tr.ddepth c
    have h4 := Tr.ddepth d
    simp only [Tr.data, PyData.depth, PyData.depthAll, Tr.deep]
    omega
theorem shaped_mk {d : PyData} (h : d.canLay0 = true) (g : d.depth ≤ 64) : SeqAt.shaped d = true := by
  show (d.canLay0 && decide (d.depth ≤ 64)) = true
  rw [h, decide_eq_true g]
  rfl
theorem Tr.shaped {t : Tr} (hf : t.fine) (h : t.deep ≤ 60) : SeqAt.shaped t.data = true := shaped_mk (Tr.lay hf) (by have := t.ddepth; omega)
theorem Tr.eqv_iff : ∀ t u : Tr, PyData.eqv t.data u.data = true ↔ t = u
  | .num n, .num m => by simp [Tr.data, PyData.eqv]
  | .wd x, .wd y => by simp [Tr.data, PyData.eqv]
  | .num n, .wd y => by simp [Tr.data, PyData.eqv]
  | .num n, .ch a b c d => by simp [Tr.data, PyData.eqv]
  | .wd x, .num m => by simp [Tr.data, PyData.eqv]
  | .wd x, .ch a b c d => by simp [Tr.data, PyData.eqv]
  | .ch a b c d, .num m => by simp [Tr.data, PyData.eqv]
  | .ch a b c d, .wd y => by simp [Tr.data, PyData.eqv]
  | .ch a b c d, .ch a' b' c' d' => by
    simp only [Tr.data, PyData.eqv, PyData.eqvAll, Bool.and_eq_true, Tr.eqv_iff a a', Tr.eqv_iff b b', Tr.eqv_iff c c', Tr.eqv_iff d d', Tr.ch.injEq, and_true]
theorem Tr.dp {K : PySem.W.Frag} {H : Hp} {v : V} {t : Tr} (h : TrAt H v t) : Dp K H v t.data := by
  induction h with
  | num n => exact .int n
  | wd x => exact .str x
  | ch h _ _ _ _ a b c d => exact .tup (SqT.of h) (.cons a (.cons b (.cons c (.cons d .nil))))
theorem dpStrs {K : PySem.W.Frag} {H : Hp} : ∀ ws : List Str, DpAll K H (ws.map V.str) (ws.map PyData.str)
  | [] => .nil
  | w :: ws => .cons (.str w) (dpStrs ws)
theorem dpInts {K : PySem.W.Frag} {H : Hp} : ∀ ns : List Int, DpAll K H (ns.map V.int) (ns.map PyData.int)
  | [] => .nil
  | n :: ns => .cons (.int n) (dpInts ns)
theorem layStrs : ∀ ws : List Str, (∀ x ∈ ws, Plain x) → PyData.canLayAll0 (ws.map PyData.str) = true
  | [], _ => by simp [PyData.canLayAll0]
  | w :: ws, h => by simp [PyData.canLayAll0, PyData.canLay0, (h w (by simp)).ok, layStrs ws fun x hx => h x (by simp [hx])]
theorem layInts : ∀ ns : List Int, PyData.canLayAll0 (ns.map PyData.int) = true
  | [] => by simp [PyData.canLayAll0]
  | n :: ns => by simp [PyData.canLayAll0, PyData.canLay0, layInts ns]
theorem depStrs : ∀ ws : List Str, PyData.depthAll (ws.map PyData.str) ≤ 1
  | [] => by simp [PyData.depthAll]
  | w :: ws => by
    have := depStrs ws
    simp only [List.map_cons, PyData.depthAll, PyData.depth]
    omega
theorem depInts : ∀ ns : List Int, PyData.depthAll (ns.map PyData.int) ≤ 1
  | [] => by simp [PyData.depthAll]
  | n :: ns => by
    have := depInts ns
    simp only [List.map_cons, PyData.depthAll, PyData.depth]
    omega
mutual
theorem dp_same {K : PySem.W.Frag} {H H' : Hp} (s : Same H H') : ∀ (d : PyData) (v : V), Dp K H v d → Dp K H' v d
  | .none, _, .non => .non
  | .bool _, _, .bl b => .bl b
  | .int _, _, .int i => .int i
  | .str _, _, .str x => .str x
  | .list ds, _, .lst h a => .lst (s.seq h) (dpAll_same s ds _ a)
  | .tuple ds, _, .tup h a => .tup (SqT.ext h s) (dpAll_same s ds _ a)
theorem dpAll_same {K : PySem.W.Frag} {H H' : Hp} (s : Same H H') : ∀ (ds : List PyData) (vs : List V), DpAll K H vs ds → DpAll K H' vs ds
  | [], _, .nil => .nil
  | d :: ds, _, .cons h a => .cons (dp_same s d _ h) (dpAll_same s ds _ a)
end
def strsD (ws : List Str) : PyData := .list (ws.map PyData.str)
def intsD (ns : List Int) : PyData := .list (ns.map PyData.int)
theorem strsD_lay {ws : List Str} (h : ∀ x ∈ ws, Plain x) : (strsD ws).canLay0 = true := by simp [strsD, PyData.canLay0, layStrs ws h]
theorem intsD_lay (ns : List Int) : (intsD ns).canLay0 = true := by simp [intsD, PyData.canLay0, layInts]
theorem strsD_dep (ws : List Str) : (strsD ws).depth ≤ 3 := by
  have := depStrs ws
  simp only [strsD, PyData.depth]
  omega
theorem intsD_dep (ns : List Int) : (intsD ns).depth ≤ 3 := by
  have := depInts ns
  simp only [intsD, PyData.depth]
  omega
end TS
namespace TS
open PySem L2
section
variable {P : Program} {w : World} {K : PySem.W.Frag} {mg : Str → Option Value} {base : Heap}
/-- a block whose rest is read once, for all heaps of a kind -/
theorem pss_split {X : Cx} {st : Stmt} {sts : List Stmt} {D : Ends} {σ : St} {H : Hp} (φ : Hp → Prop) (h1 : ∃ tR, PSs X sts tR ∧ ∀ H1, φ H1 → tR D σ H1)
    (h2 : ∀ tR, PSs X sts tR → (∀ H1, φ H1 → tR D σ H1) → ∃ t, PSs X (st :: sts) t ∧ t D σ H) : ∃ t, PSs X (st :: sts) t ∧ t D σ H := by
  obtain ⟨tR, a, b⟩ := h1
  exact h2 tR a b
/-- the same, for all slots and heaps of a kind -/
theorem pss_split2 {X : Cx} {st : Stmt} {sts : List Stmt} {D : Ends} {σ : St} {H : Hp} (φ : St → Hp → Prop) (h1 : ∃ tR, PSs X sts tR ∧ ∀ σ1 H1, φ σ1 H1 → tR D σ1 H1)
    (h2 : ∀ tR, PSs X sts tR → (∀ σ1 H1, φ σ1 H1 → tR D σ1 H1) → ∃ t, PSs X (st :: sts) t ∧ t D σ H) : ∃ t, PSs X (st :: sts) t ∧ t D σ H := by
  obtain ⟨tR, a, b⟩ := h1
  exact h2 tR a b
/-! _law_tree -/
abbrev nmLTree : List Str := ["pool", "words", "digits", "deep", "part"]
theorem scLTree : FnScope nmLTree ["pool", "words", "digits", "deep"] (defScope sLTree) := ⟨rfl, rfl, rfl, by decide +kernel, rfl, by decide +kernel, by decide +kernel⟩
/-- the words and digits of which trees are made -/
structure Stock (H : Hp) (p lw lg : Addr) (ws : List Str) (ns : List Int) : Prop where
  hw : H lw = some (.lst (ws.map V.str))
  hg : H lg = some (.lst (ns.map V.int))
  nw : lw ≠ p
  ng : lg ≠ p
  w0 : 0 < ws.length
  w1 : ws.length ≤ 1000
  g0 : 0 < ns.length
  g1 : ns.length ≤ 1000
  ok : ∀ x ∈ ws, WordOk x
  dg : ∀ n ∈ ns, 0 ≤ n ∧ n ≤ 9
theorem Stock.off {H H' : Hp} {p lw lg : Addr} {ws : List Str} {ns : List Int} (h : Stock H p lw lg ws ns) (s : SameOff [p] H H') : Stock H' p lw lg ws ns :=
  ⟨s _ _ h.hw (by simpa using h.nw), s _ _ h.hg (by simpa using h.ng), h.nw, h.ng, h.w0, h.w1, h.g0, h.g1, h.ok, h.dg⟩
def spLTree (d : Nat) : Sp := fun vs H Q _ => ∃ (p lw lg : Addr) (ws : List Str) (ns : List Int) (deep : Nat), vs = [.ref p, .ref lw, .ref lg, .int deep] ∧ PoolAt H p ∧ Stock H p lw lg ws ns ∧ 1 ≤ deep ∧ deep ≤ d ∧
  ∀ (H' : Hp) (v : V) (t : Tr), PoolOff p H H' → TrAt H' v t → t.fine → t.deep ≤ deep → Q v H'
theorem none_ltree {f : Addr} {fd : FuncData} {k : Nat} : FnOk P w K mg base CX0 k f fd ["pool", "words", "digits", "deep"] (spLTree 0) := by
  have no : ∀ vs H Q E, ¬ spLTree 0 vs H Q E := fun vs H Q E h => by
    obtain ⟨p, lw, lg, ws, ns, deep, _, _, _, h1, h0, _⟩ := h
    omega
  exact ⟨fun vs H Q E h => absurd h (no vs H Q E), fun A outer s H args us vs Q E _ _ _ _ h => absurd h (no vs H Q E)⟩
theorem ok_ltree {n d : Nat} {f : Addr} {fd : FuncData} (F : Fun K "_law_tree" "_law_tree" sLTree f fd) (T : BltT mg) (U : BltU mg) (b : Binds K fd ["pool", "words", "digits", "deep"] []) (m : mg "_law_tree" = some (.ref f))
    (D1 : Has P w K mg base "_law_take" 1 ["pool", "bound"] spTake) (D2 : Has P w K mg base "_law_one" 2 ["pool", "things"] (spOne K)) (G : FnOk P w K mg base CX0 (n + 2) f fd ["pool", "words", "digits", "deep"] (spLTree d)) :
    FnOk P w K mg base CX0 (n + 3) f fd ["pool", "words", "digits", "deep"] (spLTree (d + 1)) := by
  obtain ⟨f1, fd1, m1, k1, b1, G1⟩ := D1
  obtain ⟨f2, fd2, m2, k2, b2, G2⟩ := D2
  refine F.ok scLTree (fun vs H Q E h => ?_) (fun cdv A outer s H vs Q E hr h => ?_)
  · obtain ⟨p, lw, lg, ws, ns, deep, rfl, _⟩ := h
    rfl
  obtain ⟨p, lw, lg, ws, ns, deep, rfl, hp, st, h1, hd, q⟩ := h
  have r1 : Room 1 _ := hr.mono (by omega)
  have r2 : Room 2 _ := hr.mono (by omega)
  have rest : ∀ H1, PoolOff p H H1 → spOne K [.ref p, .ref lw] H1 Q E0 := fun H1 s1 => by
    have st1 := st.off s1.1
    refine ⟨p, .ref lw, rfl, s1.2, .inl ⟨lw, _, rfl, st.nw, SqL.of st1.hw, by rw [List.length_map]; exact st.w0, by rw [List.length_map]; exact st.w1, fun H2 i v hv s2 => ?_⟩⟩
    rw [List.getElem?_map] at hv
    cases e : ws[i]? with
    | none =>
      rw [e] at hv
      cases hv
    | some x =>
      rw [e] at hv
      cases hv
      exact q H2 _ (.wd x) (s1.trans s2) (.wd x) (st.ok x (List.mem_of_getElem? e)) h1
  have digs : ∀ H1, PoolOff p H H1 → spOne K [.ref p, .ref lg] H1 Q E0 := fun H1 s1 => by
    have st1 := st.off s1.1
    refine ⟨p, .ref lg, rfl, s1.2, .inl ⟨lg, _, rfl, st.ng, SqL.of st1.hg, by rw [List.length_map]; exact st.g0, by rw [List.length_map]; exact st.g1, fun H2 i v hv s2 => ?_⟩⟩
    rw [List.getElem?_map] at hv
    cases e : ns[i]? with
    | none =>
      rw [e] at hv
      cases hv
    | some x =>
      rw [e] at hv
      cases hv
      exact q H2 _ (.num x) (s1.trans s2) (.num x) (st.dg x (List.mem_of_getElem? e)) h1
  refine pss_split (PoolOff p H) ?second fun tR hR rR => ?first
  case first =>
    refine ⟨_, pss_cons (ps_if (PW.pt (pw_and (pt_cmpR op_gt (pv 3) pe_int (nomark _)) (pw_and1 (pt_cmpR op_eq (pe_call G1 r1 rfl m1 k1 b1 .nil pass0 (pa_cons (pv 0) (pa_cons pe_int pa_nil))) pe_int (nomark _)))))
      (pss_one (ps_ret (pe_callTy call_tuple_of (by rfl) T.tup (by decide +kernel) (pa_cons
        (pe_lc (own := [("part", 4)]) (g := gName 4) (tt := tYes) (by rfl) scLTree.nd (pi_range1 rfl U.range (pa_cons pe_int pa_nil)) (blkOk_by (own := [("part", 4)]) (N := nmLTree) (sc := defScope sLTree) (by decide +kernel)) (fun _ _ _ _ _ => pg_name (i := 4) scLTree.nd rfl (Or.inl rfl)) (fun _ _ _ _ _ => pts_nil)
          (fun _ _ _ _ _ => pe_call G hr rfl m F.kp b .nil pass0 (pa_cons (pv 0) (pa_cons (pv 1) (pa_cons (pv 2) (pa_cons (pe_op op_sub (pv 3) pe_int) pa_nil)))))) pa_nil)))) pss_nil) hR, ?_⟩
    refine ⟨_, rfl, _, _, rfl, rfl, _, rfl, ?_⟩
    refine ite2 (fun c => ?_) (fun c => ?_)
    · have c := of_decide_eq_true c
      obtain ⟨x, y, ep, x0, y0, y1⟩ := id hp
      refine ⟨_, rfl, p, x, y, 3, rfl, ep, x0, y0, y1, by decide, by decide, fun r x' y' _ _ a1 a2 a3 => ?_⟩
      have s1 : PoolOff p H (upd H p (.lst [.int x', .int y'])) := pool_upd a1 a2 a3
      generalize upd H p (.lst [.int x', .int y']) = H1 at s1
      refine ⟨rfl, _, rfl, ?_⟩
      refine ite2 (fun c1 => ?_) (fun c1 => ?_)
      · refine ⟨4, rfl, by decide, by decide, fun D hD => lc_poolR (R := fun _ G y => ∃ t : Tr, TrAt G y t ∧ t.fine ∧ t.deep + 1 ≤ deep) s1.2 hD (by decide) (fun _ => rfl) (fun i H2 R hi s2 hL hG => ?_) (fun H2 ys s2 d2 l2 hR => ?_)⟩
        · refine ⟨_, rfl, _, rfl, _, rfl, _, rfl, _, _, rfl, rfl, p, lw, lg, ws, ns, deep - 1, ?_, s2.2, st.off (s1.trans s2).1, by omega, by omega, fun H3 v t s3 ht hf hdd => ?_⟩
          · have e : ((deep : Int) - 1) = ((deep - 1 : Nat) : Int) := by omega
            show [V.ref p, V.ref lw, V.ref lg, V.int ((deep : Int) - 1)] = _
            rw [e]
          · have L3 : Lists [p, D] H3 := fun B mB => by
              simp only [List.mem_cons, List.not_mem_nil, or_false] at mB
              rcases mB with rfl | rfl
              · exact s3.2.lst
              · obtain ⟨zs, hz⟩ := hL B (by simp)
                exact ⟨zs, s3.1 _ _ hz (by simpa using s1.2.ne hD)⟩
            exact hG v H3 s3 fun H4 s4 => ⟨t, ht.off s4 L3, hf, by omega⟩
        · match ys, l2 with
          | [y0, y1, y2, y3], _ =>
            obtain ⟨t0, a0, f0, e0⟩ := hR 0 y0 rfl
            obtain ⟨t1, a1, f1, e1⟩ := hR 1 y1 rfl
            obtain ⟨t2, a2, f2, e2⟩ := hR 2 y2 rfl
            obtain ⟨t3, a3, f3, e3⟩ := hR 3 y3 rfl
            refine ⟨D, _, rfl, .inl ⟨SqL.of d2, fun l hl => ?_⟩⟩
            have g : Same H2 (upd H2 l (.tup [y0, y1, y2, y3])) := same_upd hl _
            refine q _ _ (.ch t0 t1 t2 t3) ((s1.trans s2).trans ⟨Same.off g, s2.2.same g⟩) (.ch upd_same (a0.same g) (a1.same g) (a2.same g) (a3.same g)) ⟨f0, f1, f2, f3⟩ ?_
            simp only [Tr.deep]
            omega
      · exact rR H1 s1
    · exact rR H ⟨SameOff.refl _ _, hp⟩
  case second =>
    refine ⟨_, pss_cons (ps_if (PW.pt (pw_and (pt_cmpR (op_neD hr.units) (pv 2) (pe_lst pa_nil) (nomark _)) (pw_and1 (pt_cmpR op_eq (pe_call G1 r1 rfl m1 k1 b1 .nil pass0 (pa_cons (pv 0) (pa_cons pe_int pa_nil))) pe_int (nomark _)))))
      (pss_one (ps_ret (pe_call G2 r2 rfl m2 k2 b2 .nil pass0 (pa_cons (pv 0) (pa_cons (pv 2) pa_nil))))) pss_nil)
    (pss_one (ps_ret (pe_call G2 r2 rfl m2 k2 b2 .nil pass0 (pa_cons (pv 0) (pa_cons (pv 1) pa_nil))))), fun H1 s1 => ?_⟩
    have st1 := st.off s1.1
    refine ⟨_, rfl, by show 0 ≤ sizeLine; decide, fun l hl => ?_⟩
    have g : Same H1 (upd H1 l (.lst [])) := same_upd hl _
    have s2 : PoolOff p H (upd H1 l (.lst [])) := s1.trans ⟨Same.off g, s1.2.same g⟩
    refine ⟨intsD ns, .list [], .lst (SqL.of (g _ _ st1.hg)) (dpInts ns), .lst (SqL.of upd_same) .nil, shaped_mk (intsD_lay ns) (Nat.le_trans (intsD_dep ns) (by decide)), by decide +kernel, _, rfl, ?_⟩
    have e : PyData.eqv (intsD ns) (.list []) = false := by
      have := st.g0
      cases ns with
      | nil => simp at this
      | cons n ns => simp [intsD, PyData.eqv, PyData.eqvAll]
    rw [e]
    generalize upd H1 l (.lst []) = H2 at s2
    obtain ⟨x, y, ep, x0, y0, y1⟩ := id s2.2
    refine iteT ⟨_, rfl, p, x, y, 3, rfl, ep, x0, y0, y1, by decide, by decide, fun r x' y' _ _ a1 a2 a3 => ?_⟩
    have s3 : PoolOff p H2 (upd H2 p (.lst [.int x', .int y'])) := pool_upd a1 a2 a3
    generalize upd H2 p (.lst [.int x', .int y']) = H3 at s3
    refine ⟨rfl, _, rfl, ?_⟩
    refine ite2 (fun c1 => ?_) (fun c1 => ?_)
    · exact ⟨_, rfl, _, rfl, digs H3 (s2.trans s3)⟩
    · exact ⟨_, rfl, _, rfl, rest H3 (s2.trans s3)⟩
end
end TS
namespace TS
open PySem L2
section
variable {P : Program} {w : World} {K : PySem.W.Frag} {mg : Str → Option Value} {base : Heap}
/-! _law_tree_text -/
abbrev nmLText : List Str := ["tree", "near", "far", "yes", "no", "part"]
theorem scLText : FnScope nmLText ["tree"] (defScope sLText) := ⟨rfl, rfl, rfl, by decide +kernel, rfl, by decide +kernel, by decide +kernel⟩
theorem text_plus (a b c d : Tr) : ("(" : Str) ++ a.text ++ "=" ++ b.text ++ "?" ++ c.text ++ ":" ++ d.text ++ ")" = (Tr.ch a b c d).text := by
  apply str_ext
  have e2 : ("(" : Str).cps.toList = [40] := by decide +kernel
  have e3 : ("=" : Str).cps.toList = [61] := by decide +kernel
  have e4 : ("?" : Str).cps.toList = [63] := by decide +kernel
  have e5 : (":" : Str).cps.toList = [58] := by decide +kernel
  have e6 : (")" : Str).cps.toList = [41] := by decide +kernel
  rw [codes_ch]
  simp only [codes_append, e2, e3, e4, e5, e6, List.append_assoc, List.nil_append, List.cons_append]
theorem ok_ltext {n : Nat} {f : Addr} {fd : FuncData} (F : Fun K "_law_tree_text" "_law_tree_text" sLText f fd) (T : BltT mg) (b : Binds K fd ["tree"] []) (m : mg "_law_tree_text" = some (.ref f)) (G : FnOk P w K mg base CX0 n f fd ["tree"] (spText n)) :
    FnOk P w K mg base CX0 (n + 1) f fd ["tree"] (spText (n + 1)) := by
  refine F.ok scLText (fun vs H Q E h => ?_) (fun cdv A outer s H vs Q E hr h => ?_)
  · obtain ⟨v, t, rfl, _⟩ := h
    rfl
  obtain ⟨v, t, rfl, ht, hsm, hd, hlen, q⟩ := h
  refine ⟨_, pss_cons (ps_if (pt_val (pe_callB call_isi (by rfl) T.isi bIsi (pa_cons (pv 0) (pa_cons (pe_bltn (by rfl) T.tup (v := .ty "tuple") (by decide +kernel) rfl) pa_nil))))
      (pss_cons (ps_asg (pe_lc (own := [("part", 5)]) (g := gName 5) (tt := tYes) (by rfl) scLText.nd (pi_tup (pv 0)) (blkOk_by (own := [("part", 5)]) (N := nmLText) (sc := defScope sLText) (by decide +kernel)) (fun _ _ _ _ _ => pg_name (i := 5) scLText.nd rfl (Or.inl rfl)) (fun _ _ _ _ _ => pts_nil)
        (fun _ _ _ _ _ => pe_call G hr rfl m F.kp b .nil pass0 (pa_cons (pv 5) pa_nil)))
      (pg_lst (by rfl) (pgs_cons (pg_name (i := 1) scLText.nd rfl (.inl rfl)) (pgs_cons (pg_name (i := 2) scLText.nd rfl (.inl rfl)) (pgs_cons (pg_name (i := 3) scLText.nd rfl (.inl rfl)) (pgs_cons (pg_name (i := 4) scLText.nd rfl (.inl rfl)) pgs_nil))))))
      (pss_one (ps_ret (pe_op op_add_str (pe_op op_add_str (pe_op op_add_str (pe_op op_add_str (pe_op op_add_str (pe_op op_add_str (pe_op op_add_str (pe_op op_add_str pe_str (pv 1)) pe_str) (pv 2)) pe_str) (pv 3)) pe_str) (pv 4)) pe_str)))) pss_nil)
    (pss_one (ps_ret (pe_callTy (cr_or call_str_int SkE.call_str_str) (by rfl) T.str (by decide +kernel) (pa_cons (pv 0) pa_nil)))), ?_⟩
  obtain ⟨u, c, hty, hk, hc⟩ := isT (K := K) ht
  refine ⟨_, rfl, _, _, _, _, _, rfl, .ty "tuple", hty, hk, _, rfl, ?_⟩
  rcases hc with ⟨rfl, a, b', c, d, rfl⟩ | ⟨rfl, hc⟩
  · refine iteT ?_
    cases ht with
    | ch hp ha hb hc hdd =>
      rename_i p y0 y1 y2 y3
      have tl := text_len hlen
      have dd : a.deep ≤ n ∧ b'.deep ≤ n ∧ c.deep ≤ n ∧ d.deep ≤ n := by
        simp only [Tr.deep] at hd
        omega
      obtain ⟨s1, s2, s3, s4⟩ := hsm
      refine ⟨_, rfl, p, rfl, ⟨_, SqT.of hp⟩, fun D hD => lc_mapT (ys := [.str a.text, .str b'.text, .str c.text, .str d.text]) hp rfl (by show 4 ≤ 1000; decide) hD (fun _ => rfl) (fun i x y H1 R hx hy s1' hR => ?_) (fun H1 g1 hD1 => ?_)⟩
      · refine ⟨_, rfl, ?_⟩
        rcases i with _ | _ | _ | _ | i
        · cases hx
          cases hy
          exact ⟨_, a, rfl, ha.same s1', s1, dd.1, by omega, hR⟩
        · cases hx
          cases hy
          exact ⟨_, b', rfl, hb.same s1', s2, dd.2.1, by omega, hR⟩
        · cases hx
          cases hy
          exact ⟨_, c, rfl, hc.same s1', s3, dd.2.2.1, by omega, hR⟩
        · cases hx
          cases hy
          exact ⟨_, d, rfl, hdd.same s1', s4, dd.2.2.2, by omega, hR⟩
        · simp at hx
      · have e2 : ("(" : Str).length = 1 := by decide +kernel
        have e3 : ("=" : Str).length = 1 := by decide +kernel
        have e4 : ("?" : Str).length = 1 := by decide +kernel
        have e5 : (":" : Str).length = 1 := by decide +kernel
        have e6 : (")" : Str).length = 1 := by decide +kernel
        have big : 100000 ≤ sizeLine := by decide
        have L : ∀ {k : Nat}, k ≤ 100000 → k ≤ sizeLine := fun h => Nat.le_trans h big
        refine ⟨D, _, rfl, SqL.of hD1, rfl, ?_⟩
        refine ⟨_, _, rfl, _, _, rfl, _, _, rfl, _, _, rfl, rfl, ?_⟩
        refine ⟨_, rfl, _, _, rfl, rfl, L (by omega), _, _, rfl, rfl, L (by simp only [Str.length_append]; omega), _, rfl, _, _, rfl, rfl, L (by simp only [Str.length_append]; omega), _, _, rfl, rfl, L (by simp only [Str.length_append]; omega), _, rfl, _, _, rfl, rfl, L (by simp only [Str.length_append]; omega), _, _, rfl, rfl, L (by simp only [Str.length_append]; omega), _, rfl, _, _, rfl, rfl, L (by simp only [Str.length_append]; omega), _, _, rfl, rfl, L (by simp only [Str.length_append]; omega), ?_⟩
        have q1 := q H1 g1
        rw [← text_plus] at q1
        exact q1
  · refine iteF ?_
    rcases hc with ⟨k, rfl, rfl⟩ | ⟨x, rfl, rfl⟩
    · refine ⟨_, rfl, .inl ⟨k, rfl, ?_, q H (Same.refl H)⟩⟩
      have z : k.natAbs ≤ 9 := by
        have := hsm.1
        have := hsm.2
        omega
      exact Nat.lt_of_le_of_lt (Nat.log2_le_self _) (by omega)
    · exact ⟨_, rfl, .inr ⟨x, rfl, q H (Same.refl H)⟩⟩
end
end TS
namespace TS
open PySem L2
/-! the parser's mirror: more room gives the same reading, a deeper one is cut off; what is read is what stands there -/
theorem drop_at {cs : List Nat} {i s : Nat} (h : cs[i]? = some s) : cs.drop i = s :: cs.drop (i + 1) := by
  have hi : i < cs.length := (List.getElem?_eq_some_iff.mp h).1
  have hg : cs[i] = s := (List.getElem?_eq_some_iff.mp h).2
  rw [List.drop_eq_getElem_cons hi, hg]
theorem drop_while (l : List Nat) : l.drop (l.takeWhile isLet).length = l.dropWhile isLet := by
  have h : (l.takeWhile isLet ++ l.dropWhile isLet).drop (l.takeWhile isLet).length = l.dropWhile isLet := List.drop_left
  rw [List.takeWhile_append_dropWhile] at h
  exact h
theorem choice_some {p : Nat → Option (Tr × Nat)} {cs : List Nat} {i e : Nat} {t : Tr} (h : choiceAt p cs i = some (t, e)) :
    ∃ a b c d e1 e2 e3 e4, t = .ch a b c d ∧ e = e4 + 1 ∧ cs[i]? = some 40 ∧ p (i + 1) = some (a, e1) ∧ cs[e1]? = some 61 ∧ p (e1 + 1) = some (b, e2) ∧ cs[e2]? = some 63 ∧ p (e2 + 1) = some (c, e3) ∧ cs[e3]? = some 58 ∧ p (e3 + 1) = some (d, e4) ∧ cs[e4]? = some 41 := by
  unfold choiceAt at h
  simp only [partsAt] at h
  split at h
  case h_2 => cases h
  rename_i a b c d e4 hp
  split at h
  case isFalse => cases h
  rename_i h41
  split at hp
  case isFalse => cases hp
  rename_i h40
  split at hp
  case h_1 => cases hp
  rename_i a1 e1 p1
  split at hp
  case h_1 => cases hp
  rename_i ts1 f1 hp1
  split at hp1
  case isFalse => cases hp1
  rename_i h61
  split at hp1
  case h_1 => cases hp1
  rename_i a2 e2 p2
  split at hp1
  case h_1 => cases hp1
  rename_i ts2 f2 hp2
  split at hp2
  case isFalse => cases hp2
  rename_i h63
  split at hp2
  case h_1 => cases hp2
  rename_i a3 e3 p3
  split at hp2
  case h_1 => cases hp2
  rename_i ts3 f3 hp3
  split at hp3
  case isFalse => cases hp3
  rename_i h58
  split at hp3
  case h_1 => cases hp3
  rename_i a4 e5 p4
  simp only [Option.some.injEq, Prod.mk.injEq] at hp hp1 hp2 hp3 h
  obtain ⟨rfl, rfl⟩ := hp3
  obtain ⟨rfl, rfl⟩ := hp2
  obtain ⟨rfl, rfl⟩ := hp1
  obtain ⟨hl, rfl⟩ := hp
  obtain ⟨rfl, rfl⟩ := h
  injection hl with q1 hl
  injection hl with q2 hl
  injection hl with q3 hl
  injection hl with q4 hl
  subst q1 q2 q3 q4
  exact ⟨_, _, _, _, e1, e2, e3, _, rfl, rfl, h40, p1, h61, p2, h63, p3, h58, p4, h41⟩
theorem choice_mk {p : Nat → Option (Tr × Nat)} {cs : List Nat} {i e1 e2 e3 e4 : Nat} {a b c d : Tr} (h0 : cs[i]? = some 40) (p1 : p (i + 1) = some (a, e1)) (h1 : cs[e1]? = some 61) (p2 : p (e1 + 1) = some (b, e2)) (h2 : cs[e2]? = some 63) (p3 : p (e2 + 1) = some (c, e3)) (h3 : cs[e3]? = some 58) (p4 : p (e3 + 1) = some (d, e4)) (h4 : cs[e4]? = some 41) :
    choiceAt p cs i = some (.ch a b c d, e4 + 1) := by
  unfold choiceAt
  simp only [partsAt, h0, p1, h1, p2, h2, p3, h3, p4, if_true, h4]
theorem treeAt_more (z : Str) : ∀ (r i : Nat) (t : Tr) (e : Nat), treeAt z r i = some (t, e) → treeAt z (r + 1) i = some (t, e) ∧ t.deep ≤ r
  | 0, i, t, e, h => by simp [treeAt] at h
  | r + 1, i, t, e, h => by
    unfold treeAt at h ⊢
    split at h
    case h_1 => cases h
    rename_i c hc
    by_cases h40 : c = 40
    · simp only [h40, if_true] at h ⊢
      obtain ⟨a, b, c', d, e1, e2, e3, e4, rfl, rfl, g0, q1, g1, q2, g2, q3, g3, q4, g4⟩ := choice_some h
      obtain ⟨m1, d1⟩ := treeAt_more z r _ _ _ q1
      obtain ⟨m2, d2⟩ := treeAt_more z r _ _ _ q2
      obtain ⟨m3, d3⟩ := treeAt_more z r _ _ _ q3
      obtain ⟨m4, d4⟩ := treeAt_more z r _ _ _ q4
      refine ⟨choice_mk g0 m1 g1 m2 g2 m3 g3 m4 g4, ?_⟩
      simp only [Tr.deep]
      omega
    · simp only [h40, if_false] at h ⊢
      refine ⟨h, ?_⟩
      split at h
      · cases h
        exact Nat.le_add_left _ _
      · split at h
        · cases h
          exact Nat.le_add_left _ _
        · cases h
theorem treeAt_less (z : Str) : ∀ (r i : Nat) (t : Tr) (e : Nat), treeAt z (r + 1) i = some (t, e) → t.deep ≤ r → treeAt z r i = some (t, e)
  | 0, i, t, e, h, hd => by
    have := t.deep_pos
    omega
  | r + 1, i, t, e, h, hd => by
    unfold treeAt at h ⊢
    split at h
    case h_1 => cases h
    rename_i c hc
    by_cases h40 : c = 40
    · simp only [h40, if_true] at h ⊢
      obtain ⟨a, b, c', d, e1, e2, e3, e4, rfl, rfl, g0, q1, g1, q2, g2, q3, g3, q4, g4⟩ := choice_some h
      simp only [Tr.deep] at hd
      exact choice_mk g0 (treeAt_less z r _ _ _ q1 (by omega)) g1 (treeAt_less z r _ _ _ q2 (by omega)) g2 (treeAt_less z r _ _ _ q3 (by omega)) g3 (treeAt_less z r _ _ _ q4 (by omega)) g4
    · simp only [h40, if_false] at h ⊢
      exact h
/-- what is read is what stands there -/
theorem treeAt_out (z : Str) : ∀ (r i : Nat) (t : Tr) (e : Nat), treeAt z r i = some (t, e) → z.cps.toList.drop i = t.text.cps.toList ++ z.cps.toList.drop e ∧ t.fine
  | 0, i, t, e, h => by simp [treeAt] at h
  | r + 1, i, t, e, h => by
    unfold treeAt at h
    split at h
    case h_1 => cases h
    rename_i c hc
    by_cases h40 : c = 40
    · simp only [h40, if_true] at h
      obtain ⟨a, b, c', d, e1, e2, e3, e4, rfl, rfl, g0, q1, g1, q2, g2, q3, g3, q4, g4⟩ := choice_some h
      obtain ⟨t1, f1⟩ := treeAt_out z r _ _ _ q1
      obtain ⟨t2, f2⟩ := treeAt_out z r _ _ _ q2
      obtain ⟨t3, f3⟩ := treeAt_out z r _ _ _ q3
      obtain ⟨t4, f4⟩ := treeAt_out z r _ _ _ q4
      refine ⟨?_, f1, f2, f3, f4⟩
      rw [codes_ch, drop_at g0, t1, drop_at g1, t2, drop_at g2, t3, drop_at g3, t4, drop_at g4]
      simp only [List.cons_append, List.append_assoc, List.nil_append]
    · simp only [h40, if_false] at h
      by_cases hd : isDig c = true
      · simp only [hd, if_true] at h
        cases h
        have := isDig_iff.mp hd
        refine ⟨?_, by constructor <;> omega⟩
        rw [drop_at hc]
        have e1 : (Tr.num ((c : Int) - 48)).text.cps.toList = [48 + ((c : Int) - 48).toNat] := codes_digit (by omega) (by omega)
        rw [e1]
        have e2 : 48 + ((c : Int) - 48).toNat = c := by omega
        rw [e2]
        rfl
      · have hd' : isDig c = false := by simpa using hd
        simp only [hd', if_false, Bool.false_eq_true] at h
        split at h
        case isFalse => cases h
        rename_i hw
        cases h
        have hi : i < z.cps.toList.length := (List.getElem?_eq_some_iff.mp hc).1
        have hk : wend z.cps.toList i - i = ((z.cps.toList.drop i).takeWhile isLet).length := by
          unfold wend
          omega
        have hle : wend z.cps.toList i ≤ z.length := by
          have h1 : ((z.cps.toList.drop i).takeWhile isLet).length ≤ (z.cps.toList.drop i).length := (List.takeWhile_sublist _).length_le
          rw [List.length_drop, len_codes] at h1
          rw [len_codes] at hi
          unfold wend
          omega
        have hge : i ≤ wend z.cps.toList i := Nat.le_add_right _ _
        have hc2 : (seg z i (wend z.cps.toList i)).cps.toList = (z.cps.toList.drop i).takeWhile isLet := by
          rw [seg_codes z hge hle, hk]
          exact (List.prefix_iff_eq_take.mp (List.takeWhile_prefix _)).symm
        have hlen : (seg z i (wend z.cps.toList i)).length = wend z.cps.toList i - i := by
          rw [← len_codes, hc2, hk]
        refine ⟨?_, by rw [hlen]; exact hw.1, by rw [hlen]; exact hw.2, fun x hx => ?_⟩
        · show z.cps.toList.drop i = (seg z i (wend z.cps.toList i)).cps.toList ++ _
          rw [hc2]
          have : z.cps.toList.drop (wend z.cps.toList i) = (z.cps.toList.drop i).dropWhile isLet := by
            unfold wend
            rw [← List.drop_drop]
            exact drop_while (z.cps.toList.drop i)
          rw [this, List.takeWhile_append_dropWhile]
        · rw [hc2] at hx
          exact (by have := List.all_takeWhile (p := isLet) (l := z.cps.toList.drop i); exact List.all_eq_true.mp this x hx)
theorem treeOf_out {z : Str} {t : Tr} (h : treeOf z = some t) : t.text = z ∧ t.fine ∧ t.deep ≤ 3 := by
  unfold treeOf at h
  split at h
  case h_2 => cases h
  rename_i t' e hp
  split at h
  case isFalse => cases h
  rename_i he
  cases h
  obtain ⟨h1, h2⟩ := treeAt_out z 3 0 _ _ hp
  refine ⟨?_, h2, (treeAt_more z 3 0 _ _ hp).2⟩
  rw [he, ← len_codes, List.drop_length, List.append_nil, List.drop_zero] at h1
  exact (str_ext h1).symm
/-- a reading with more room, cut at three -/
theorem treeAt_up (z : Str) {i : Nat} {t : Tr} {e : Nat} : ∀ {R r : Nat}, r ≤ R → treeAt z r i = some (t, e) → treeAt z R i = some (t, e)
  | 0, r, hr, h => by
    have : r = 0 := by omega
    subst this
    exact h
  | R + 1, r, hr, h => by
    by_cases c : r = R + 1
    · subst c
      exact h
    · exact (treeAt_more z R i t e (treeAt_up z (by omega) h)).1
theorem treeAt_down (z : Str) {i : Nat} {t : Tr} {e : Nat} : ∀ {R r : Nat}, r ≤ R → t.deep ≤ r → treeAt z R i = some (t, e) → treeAt z r i = some (t, e)
  | 0, r, hr, hd, h => by
    have : r = 0 := by omega
    subst this
    exact h
  | R + 1, r, hr, hd, h => by
    by_cases c : r = R + 1
    · subst c
      exact h
    · exact treeAt_down z (by omega) hd (treeAt_less z R i t e h (by omega))
theorem treeOf_read (z : Str) {R : Nat} (h : 3 ≤ R) : treeOf z = match treeAt z R 0 with
    | some (t, e) => if e = z.length ∧ t.deep ≤ 3 then some t else none
    | none => none := by
  unfold treeOf
  cases h3 : treeAt z 3 0 with
  | some x =>
    obtain ⟨t, e⟩ := x
    rw [treeAt_up z h h3]
    have := (treeAt_more z 3 0 _ _ h3).2
    simp [this]
  | none =>
    cases hR : treeAt z R 0 with
    | none => rfl
    | some x =>
      obtain ⟨t, e⟩ := x
      have : ¬ t.deep ≤ 3 := fun c => by
        rw [treeAt_down z h c hR] at h3
        cases h3
      simp [this]
end TS
namespace TS
open PySem PySem.Spec PyProof.Rows PySem.W PySem.Calls L2
/-- what __init__(self, x) of an own error promises: the object gets its dict with one attribute -/
def spIni (C : Addr) (fld : Str) : Sp := fun vs H Q _ => ∃ (a : Addr) (v : V), vs = [.ref a, v] ∧ H a = some (exo a C none) ∧
  ∀ dx, H dx = none → dx ≠ a → Q .non (upd (upd H dx (exd dx [(fld, v)])) a (exo a C (some dx)))
/-- a def's scope by its names -/
abbrev fscope (names : List (Str × NameKind)) : Scope := { kind := .function, names := names, isGenerator := false, isCoroutine := false, more := [] }
/-- super().__init__(text) -/
abbrev supX (msg : Str) (kk : Nat) (p0 p1 p2 p3 p4 : Pos) : Expr := .Call (.Attribute (.Call (.Name "super" p0) [] [] p1) "__init__" p2) [.Constant (.str msg) kk p3] [] p4
/-- its evaluation, as the positions allow it -/
def SupOk (msg : Str) (kk : Nat) (p0 p1 p2 p3 p4 : Pos) : Prop := ∀ env : Env, ∃ pl : Sem Bool, eval (supX msg kk p0 p1 p2 p3 p4) env = (do
  let ov ← attributeBase (.Call (.Name "super" p0) [] [] p1) "__init__" env (eval (.Call (.Name "super" p0) [] [] p1) env)
  standAt p2.atName
  let (f, first) ← holding [ov] (getMethod ov "__init__" pl)
  callWith p4 f first (backTo p4 (starEach [.Constant (.str msg) kk p3] env)) [])
/-- what is known of a built-in error's __init__ -/
structure IniF (B initId : String) : Prop where
  plain : plainId initId = true
  entry : entryFor table initId = some Builtin.«BaseException.__init__»
  kind : builtinKind initId = some .slot
  row : Manifest.signature? initId = some ⟨.positional, "*", B, .self, [⟨"args", .varPos, false⟩]⟩
  noStar : (B != "*") = true
  KF : KxsFacts B initId
theorem IniF.of {B newId initId : String} (F : ExcCallFacts B newId initId) (k : KxsFacts B initId) : IniF B initId := ⟨F.init.plain, F.initEntry, F.initKind, F.initRow, F.noStar, k⟩
theorem check_b {M : Model} {A : Around} {E : Value → Shared → Prop} {h : Heap} {g : Array GenState} {d : Drawn} {t : Nat} {os : OsState} {B initId newId : String} (F : IniF B initId) {nm q : Str} {C N e : Addr} {oe : Obj} {bs bm : List Value} {hdct : Bool} {sn : List Str} {sub : List Value} {ab : Bool} {col : Option Bool} {dd : Option Addr} {k0 k1 k2 k3 k5 : Option Value} {rest : List Value} {Q : Unit → Shared → Prop}
    (hC : h.get? C = some (excClassObj nm q C N bs bm hdct sn sub ab col dd k0 k1 k2 k3 k5 newId)) (he : h.get? e = some oe) (hcls : oe.cls = .ref C) (hq : Q () ⟨h, g, d, t, os⟩) : wpAny M A (checkBoundCall initId ⟨.ref e :: rest, []⟩) Q E ⟨h, g, d, t, os⟩ := by
  have hst := F.noStar
  simp only [checkBoundCall, F.kind, F.row]
  repeat (first
    | (with_reducible refine wpAny_loadPart_at he ?_; rw [hcls])
    | with_reducible refine wpAny_loadPart_at hC ?_
    | wp_step)
  refine wpAny_onRaise ?_
  have z : ∀ (x y : String) (n : Nat), Bind.check ⟨.positional, "*", B, .self, [⟨"args", .varPos, false⟩]⟩ x y n (List.map (fun x => x.fst) ({ pos := Value.ref e :: rest } : Args).kw) = pure () := fun x y n => check_star_args _ _ _ _ _ _
  rw [z]
  exact wpAny_pure hq
/-- what the written part says of an own error's class, over the built-in B -/
structure ErrK (K : Frag) (C : Addr) (B newId initId : String) (bmB : List Value) : Prop where
  NF : ∃ (Bn iN : String) (bmN : List Value), ExcBaseFacts Bn newId iN bmN ∧ bmB.contains (.type Bn) = true
  noA : bmB.contains (.type "AttributeError") = false
  noN : bmB.contains (.type "NameError") = false
  IF : IniF B initId
  pass : ∀ self : Value, refuseLoop self "__setattr__" bmB = pure ()
  obj : bmB.contains (.type "object") = true
  cls : ∃ nm qn N bs bm sn sub ab col dd k0 k1 k2 k3 k5, K.lookup C = some (excClassObj nm qn C N bs bm true sn sub ab col dd k0 k1 k2 k3 k5 newId) ∧ excTail bmB bm = true
  sa : findIn K (.ref C) "__setattr__" = some (some (.builtin "object.__setattr__"))
  exC : subIn K (.ref C) (.type "BaseException") = some true
  tyC : typeIn K (.ref C) = some (.type "type")
  kC : keepIn K (.ref C) = true
open Builtin Builtin.ObjectAttr in
/-- self.name = v on an error that has no dict yet -/
theorem exc_put {prog : Program} {w : World} {A : Around} {R : Result → Shared → Prop} {hp : Heap} {g : Array GenState} {dr : Drawn} {t : Nat} {os : OsState} {K : Frag} {name : Str} {tk : Tok} {v : Value} {x C : Addr} {fv : Array Value} {nm qn : Str} {N : Addr} {bs bm sub : List Value} {sn : List Str} {ab : Bool} {col : Option Bool} {bmB : List Value}
    (X : K.In hp) (hx : hp.get? x = some { cls := .ref C, data := .fields fv }) (hm : excTail bmB bm = true) (hps : ∀ self : Value, refuseLoop self "__setattr__" bmB = pure ()) (hob : bmB.contains (.type "object") = true)
    (hcd : clsIn K C = some { name := nm, bases := bs, mro := .ref C :: bm, ns := N, qualname := qn, hasDict := true, slotNames := sn, subclasses := sub, abstract := ab, collection := col, hasDel := false })
    (ha : findIn K (.ref C) name = some none)
    (hq : ∀ h' tk' dx, (∀ b o, b ≠ x → hp.get? b = some o → h'.get? b = some o) → hp.objs.size ≤ dx → dx ≠ x → h'.get? x = some { cls := .ref C, dict := some dx, data := .fields fv } →
      h'.Ns1 dx (fun y => if y = name then some v else none) → R (.ok (.ret .none)) ⟨h', g, dr, tk', os⟩) :
    codeAny (model prog w) A (.call (.builtin "object.__setattr__") ⟨[.ref x, .str name tk, v], []⟩) R ⟨hp, g, dr, t, os⟩ := by
  have J : InstAt hp x { cls := .ref C, data := .fields fv } C none := ⟨hx, rfl, rfl, trivial⟩
  have hT : excTail bmB (.ref C :: bm) = true := hm
  have ob : (Value.ref C :: bm).contains (.type "object") = true := (excTail_contains "object" _ hT).trans hob
  have fresh : x ≠ hp.objs.size := Nat.ne_of_lt (Heap.lt_size hx)
  have isob : Looks (model prog w) hp (isInstance (.ref x) (.type "object")) true := J.type.andThen (looks_mroIn X (by
    unfold mroIn
    rw [hcd, Option.bind_some, if_neg (by simp), ob]))
  have SO := F.store_object
  refine codeAny_call_builtin SO.slot.plain SO.entry (@check_slot (model prog w) _ _ ⟨hp, g, dr, t, os⟩ "object.__setattr__" "object" "__setattr__" (.ref x) [.str name tk, v] [] _ SO.kind SO.split isob (SO.args (.ref x) (.str name tk) v) ?_)
  have Lm : Looks (model prog w) hp (mroOf (.ref C)) (.ref C :: bm) := (looks_clsIn X hcd).andThen .now
  have Ln : Looks (model prog w) hp (storeTaker? none) none := .now
  have Lc := looks_clsIn (M := model prog w) X hcd
  rw [osa_eq, refuse_eq]
  refine wpAny_bind (wpAny_bind (J.type.at (wpAny_bind (Lm.at ?_))))
  rw [excTail_pass _ (hps _) _ hT]
  refine wpAny_pure (wpAny_bind (J.type.at (wpAny_bind ((looks_findIn X ha).at (wpAny_bind (Ln.at ?_))))))
  show wpAny _ _ (storeInOwnDict (.ref x) (.ref C) (.str name tk) name v false) _ _ _
  unfold storeInOwnDict ownDictForStores
  repeat (first | with_reducible refine PySem.HandSPX.store_in_new ?_ ?_ | with_reducible refine wpAny_loadPart_at hx ?_ | with_reducible refine Lc.at ?_ | wp_step)
  · exact ⟨_, #[], _, (Heap.get?_update_ne _ _ _ _ fresh.symm).trans (Heap.get?_push_at rfl rfl), rfl, fun e he => absurd he (by simp), fun _ => rfl⟩
  · intro h' tk' hn' hs
    have hx1 : (hp.push { cls := .type "dict", data := .dict #[] }).get? x = some { cls := .ref C, data := .fields fv } := Heap.get?_push_of_some _ hx
    refine hq h' tk' hp.objs.size (fun b o hb z => ?_) (Nat.le_refl _) fresh.symm ?_ hn'
    · refine (hs.2 b (Nat.ne_of_lt (Heap.lt_size z))).trans ?_
      exact (Heap.get?_update_ne _ _ _ _ hb).trans (Heap.get?_push_of_some _ z)
    · exact (hs.2 x fresh).trans (Heap.get?_update_self _ hx1 rfl)
/-- what the written part says of an own error's __init__ with super().__init__(text) -/
structure IniTxt (K : Frag) (C cc cda : Addr) (qual : Str) (file : Str) (B initId : String) : Prop where
  hcode : ∃ ccl cdd vs ccs tf, K.lookup cda = some ⟨ccl, cdd, .fields vs, ccs⟩ ∧ vs[2]? = some (.str file tf)
  hcell : ∃ cl cld csl, K.lookup cc = some ⟨cl, cld, .cell (some (.ref C)), csl⟩
  hself : mroIn K C (.ref C) = some true
  hcd : codeIn K (.ref cda) qual = true
  ho : nsIn K cStatics "thirdparty.any" = some none
  hm : ks_superIn K C C "__init__" = some (some (.builtin initId))
  hB : subIn K (.ref C) (.type B) = some true
theorem fn_ini {P : Program} {w : World} {K : Frag} {mg : Str → Option Value} {base : Heap} {k : Nat} {f cc cda C : Addr} {qual fld msg arg file : Str} {params : Arguments} {names : List (Str × NameKind)} {dV kV doc pm ct oc : Value} {an od : Option Addr} {osl : Array (Option Value)}
    {p0 p1 p2 p3 p4 p5 p6 p7 p8 p9 : Pos} {kk : Nat} {ar : Arg} {B newId initId : String} {bmB : List Value}
    (T : ErrK K C B newId initId bmB) (Z : IniTxt K C cc cda qual file B initId) (SO : SupOk msg kk p0 p1 p2 p3 p4)
    (lk : K.lookup f = some ⟨oc, od, .func (ksFn "__init__" qual params
      [.Expr (supX msg kk p0 p1 p2 p3 p4) p5,
       .Assign [.Attribute (.Name "self" p6) fld p7] (.Name arg p8) p9] (fscope names) dV kV doc pm an (.ref cda) ct cc), osl⟩)
    (hfile : ((P.main.file : Str) == file) = true) (htop : (P.main.scope.names.lookup ("super" : Str)).isSome = false)
    (hsup : mg "super" = none) (hno : findIn K (.ref C) fld = some none)
    (hp : (params.posonlyargs ++ params.args).head? = some ar) (har : ar.arg = "self")
    (hks : names.lookup ("super" : Str) = some .globalImplicit) (hkc : names.lookup ("__class__" : Str) = some .free)
    (hka : names.lookup ("self" : Str) = some .local) (hkv : names.lookup arg = some .local)
    (hcell : ∀ x ∈ names, x.2 ≠ .cell)
    (hne : arg ≠ "self") (hdb : (arg == ("__debug__" : Str)) = false) :
    FnOk P w K mg base CX0 (k + 1) f (ksFn "__init__" qual params
      [.Expr (supX msg kk p0 p1 p2 p3 p4) p5,
       .Assign [.Attribute (.Name "self" p6) fld p7] (.Name arg p8) p9] (fscope names) dV kV doc pm an (.ref cda) ct cc) ["self", arg] (spIni C fld) := by
  refine ⟨fun vs H Q E h => ?_, fun A outer s H args us vs Q E hr e0 hb r hsp => ?_⟩
  · obtain ⟨a, v, rfl, _⟩ := h
    rfl
  obtain ⟨a, v, rfl, ea, q⟩ := hsp
  obtain ⟨u, rfl, rv⟩ : ∃ u, us = [Value.ref a, u] ∧ RelV v u := by
    cases r with
    | cons ra rr =>
      cases rr with
      | cons rb rc =>
        cases rc
        exact ⟨_, by rw [show _ = Value.ref a from ra], rb⟩
  have KX : K.In s.heap := e0.mod.kin.keeps fun b o e => (e0.bs b o e).1
  have lim : s.heap.NoLimit := e0.mod.nolimit.keeps fun b o e => (e0.bs b o e).1
  refine ks_codeAny_call_defAt (binds := [("self", Value.ref a), (arg, u)]) hr.depth (KX _ _ lk) rfl lim (codeRec_of KX Z.hcd) rfl hb hcell ?_ (fun h₁ hns hk₁ => ?_)
  · intro x hx
    rcases List.mem_cons.mp hx with rfl | hx
    · exact hka
    · rcases List.mem_cons.mp hx with rfl | hx
      · exact hkv
      · cases hx
  have X₁ : K.In h₁ := KX.keeps hk₁
  have bk : ∀ b o, base.get? b = some o → h₁.get? b = some o := fun b o e => hk₁ b o (e0.bs b o e).1
  obtain ⟨t1, hoa⟩ := exo_at e0.hok ea
  have ho1 := hk₁ _ _ hoa
  obtain ⟨nm, qn, N, bs, bm, sn, sub, ab, col, dd, k0, k1, k2, k3, k5, hC, hbm⟩ := T.cls
  obtain ⟨ccl, cdd, cvs, ccs, tf, hcode, hcvs⟩ := Z.hcode
  obtain ⟨cl, cld, csl, hcel⟩ := Z.hcell
  have hcl : clsIn K C = some { name := nm, bases := bs, mro := .ref C :: bm, ns := N, qualname := qn, hasDict := true, slotNames := sn, subclasses := sub, abstract := ab, collection := col, hasDel := false } := by
    unfold clsIn
    rw [hC] <;> rfl
  have mself : (fun x => ([("self", Value.ref a), (arg, u)] : List (Str × Value)).reverse.lookup x) "self" = some (Value.ref a) := by
    show List.lookup ("self" : Str) [(arg, u), ("self", Value.ref a)] = _
    rw [List.lookup_cons, show (("self" : Str) == arg) = false from by simpa using fun z : ("self" : Str) = arg => hne z.symm]
    simp [List.lookup]
  have marg : (fun x => ([("self", Value.ref a), (arg, u)] : List (Str × Value)).reverse.lookup x) arg = some u := by
    show List.lookup arg [(arg, u), ("self", Value.ref a)] = _
    simp [List.lookup]
  obtain ⟨mb, hmb, hboot⟩ := e0.mod.blt
  obtain ⟨pl, he⟩ := SO (callEnv (ksFn "__init__" qual params
      [.Expr (supX msg kk p0 p1 p2 p3 p4) p5,
       .Assign [.Attribute (.Name "self" p6) fld p7] (.Name arg p8) p9] (fscope names) dV kV doc pm an (.ref cda) ct cc) s.heap.objs.size f)
  refine ks_wpAt_execs_cons (ks_wpAt_Expr_any (ks_wpAt_MethodCall ?_ he))
  refine ks_wpAt_super_base (f := f) (cc := cda) (ar := ar) hks hkc (by decide) rfl (X₁ _ _ lk) rfl hp rfl (X₁ _ _ hcode) rfl hcvs hfile htop ?_
  refine ks_loadName_global rfl hks (loadGlobal_builtin (e0.mod.glob.keeps bk) hsup (hmb.keeps bk) ((hboot _ (by decide +kernel)).trans (by decide +kernel : bootBuiltins "super" = some (.type "super"))) ⟨rfl, ?_⟩)
  refine wpAny_loadName_free rfl hkc rfl ⟨_, X₁ _ _ hcel, rfl⟩ ?_
  rw [har]
  refine wpAny_loadName_local rfl hka hns mself ?_
  refine ks_wpAny_isType_cls (X₁ _ _ hC) rfl ⟨rfl, ?_⟩
  refine ks_wpAny_call_super (X₁ _ _ hC) rfl ho1 rfl (fun c z => by cases z) (looks_mroIn X₁ Z.hself) (fun h₂ hso hk₂ => ?_)
  have X₂ : K.In h₂ := X₁.keeps hk₂
  have hoa2 := hk₂ _ _ ho1
  have I2 : InstAt h₂ a { cls := .ref C, dict := none, data := .fields #[.ref t1, .none, .none, .none, .bool false, .none] } C none := ⟨hoa2, rfl, rfl, trivial⟩
  have hm := Z.hm
  unfold ks_superIn at hm
  rw [hcl, Option.bind_some] at hm
  have xC : a ≠ C := ks_ne X₂ I2 hcl
  refine kxs_getMethod T.IF.KF hso (looks_opaque X₂ Z.ho) (l₀ := .ref C :: bm) ((looks_clsIn X₂ hcl).andThen .now) rfl X₂ hm (I2.type.andThen (looks_subIn X₂ Z.hB)) xC (by decide) ?_
  refine kxs_callWith (i := initId) (x := a) rfl ?_
  show wpAny _ _ (evalArgs _ true [(false, eval (.Constant (.str msg) kk p3) _)] []) _ _ _
  refine evalArgs_plain (spliced_cons (Calls.Constant_str (spliced_nil ?_)))
  have hu3 : (h₂.push (kxs_mw initId a)).get? h₂.objs.size = some (kxs_mw initId a) := Heap.get?_push_at rfl rfl
  have hk₃ : ∀ b o, h₂.get? b = some o → (h₂.push (kxs_mw initId a)).get? b = some o := fun b o e => Heap.get?_push_of_some _ e
  refine ⟨hu3, ?_⟩
  refine wpAny_call (codeAny_of_tree ?_)
  show wpAny _ _ (callAny (.ref h₂.objs.size) _) _ _ _
  simp only [callAny]
  refine wpAny_bind (wpAny_load hu3 ?_)
  refine KFB.if_so (by first | rfl | simp [kxs_mw]) ?_
  refine wpAny_bind (check_b T.IF (hk₃ _ _ (X₂ _ _ hC)) (hk₃ _ _ hoa2) rfl ?_)
  refine wpAny_bind (wpAny_pure (wpAny_pure ?_))
  refine ⟨plainId_quiet T.IF.plain _, codeAny_builtin T.IF.entry ?_⟩
  refine exc_init_tree (cls := .ref C) (t0 := t1) (dv := none) (c2 := .none) (c3 := .none) (b4 := .bool false) (hk₃ _ _ hoa2) (by show 1 ≤ sizeLine; decide) fun h₄ hk₄ hx₄ _ => ?_
  have k14 : ∀ b o, b ≠ a → h₁.get? b = some o → h₄.get? b = some o := fun b o hb e => hk₄ b o hb (hk₃ b o (hk₂ b o e))
  have aL : a < s.heap.objs.size := Heap.lt_size hoa
  have hns4 : h₄.Ns s.heap.objs.size (fun x => ([("self", Value.ref a), (arg, u)] : List (Str × Value)).reverse.lookup x) := by
    obtain ⟨oL, es, ep, hL, rest⟩ := hns
    exact ⟨oL, es, ep, k14 _ _ (Nat.ne_of_gt aL) hL, rest⟩
  have X₄ : K.In h₄ := fun b o e => by
    refine k14 b o ?_ (X₁ b o e)
    rintro rfl
    have hbb := (e0.mod.kin b o e)
    have := (e0.bs b o hbb).2
    rw [ea] at this
    cases this
  refine ks_wpAt_execs_cons (ks_wpAt_Assign_Attr (wpAt_of_wpAny (wpAny_Name (wpAny_loadName_local rfl hkv hns4 marg ?_) hdb)))
  refine wpAny_Name (wpAny_loadName_local rfl hka hns4 mself ?_) (by decide)
  refine set_plain X₄ (ox := { cls := .ref C, dict := none, data := .fields #[.ref (h₂.push (kxs_mw initId a)).objs.size, .none, .none, .none, .bool false, .none] }) (od := none) ⟨hx₄, rfl, rfl, trivial⟩ T.sa ?_
  refine exc_put X₄ hx₄ hbm T.pass T.obj hcl hno (fun h₅ tk₅ dx hk₅ hdx hdxa hx₅ hn₅ => ?_)
  have L4 : s.heap.objs.size < h₄.objs.size := by
    obtain ⟨oL, es, ep, hL, rest⟩ := hns4
    exact Heap.lt_size hL
  have dge : s.heap.objs.size ≤ dx := Nat.le_trans (Nat.le_of_lt L4) hdx
  have hnd : H dx = none := e0.hok.fresh dge
  have k05 : ∀ b o, b ≠ a → s.heap.get? b = some o → h₅.get? b = some o := fun b o hb e => hk₅ b o hb (k14 b o hb (hk₁ b o e))
  have nd : ∀ {b : Addr} {o : Obj}, s.heap.get? b = some o → b ≠ dx := fun {b o} z => Nat.ne_of_lt (Nat.lt_of_lt_of_le (Heap.lt_size z) dge)
  have na : ∀ {b : Addr}, H b = none → b ≠ a := fun {b} n z => by
    rw [z, ea] at n
    cases n
  refine wpAt_of_wpAny (wpAny_pure ?_)
  refine ⟨V.non, upd (upd H dx (exd dx [(fld, v)])) a (exo a C (some dx)), rfl, e0.bare, ?_, ?_, rfl, q dx hnd hdxa⟩
  · exact {
      keep := fun b o z n _ _ => k05 b o (na n) z
      slot := fun b o z n _ _ => ⟨o.slots, k05 b o (na n) z⟩
      free := fun b o z n _ => by
        rw [upd_ne (na n), upd_ne (nd z)]
        exact n
      there := fun b o z _ => by
        by_cases hb : b = a
        · exact ⟨_, by rw [hb]; exact hx₅⟩
        · exact ⟨o, k05 b o hb z⟩
      tups := fun b xs z => by
        rw [upd_ne (at_ne ea z exo_tup), upd_ne (ne_of_none z hnd)]
        exact z
      frzs := fun b o y z => by
        rw [upd_ne (at_ne ea z exo_frz), upd_ne (ne_of_none z hnd)]
        exact z
      tbls := fun b ps z => ⟨#[], by
        rw [upd_ne (at_ne ea z exo_tbl), upd_ne (ne_of_none z hnd), z]
        simp⟩ }
  · intro b o z
    by_cases hb : b = a
    · subst hb
      rw [upd_same] at z
      cases z
      exact exo_ok hx₅
    · rw [upd_ne hb] at z
      by_cases hd : b = dx
      · subst hd
        rw [upd_same] at z
        cases z
        exact exd_ok hn₅ (relO_put (fs := []) rv fun g => True.intro)
      · rw [upd_ne hd] at z
        have nown : ∀ {c : Addr}, H c = some (.own b) → c ≠ a := fun {c} hc => at_ne ea hc exo_own
        refine (e0.hok b o z).stay (fun c y hc e => k05 c y ?_ e) (fun c hc => ?_) (fun c xs hc => ?_)
        · rcases hc with hc | hc
          · rw [hc]
            exact hb
          · exact nown hc
        · rw [upd_ne (nown hc), upd_ne (ne_of_none hc hnd)]
          exact hc
        · rw [upd_ne (at_ne ea hc exo_tup), upd_ne (ne_of_none hc hnd)]
          exact hc
end TS
namespace TS
open PySem PySem.Spec PyProof.Rows PySem.W PySem.Calls L2
section
variable {prog : Program} {w : World} {M : Model} {A : Around} {E : Value → Shared → Prop} {R : Result → Shared → Prop} {h : Heap} {g : Array GenState} {d : Drawn} {t : Nat} {os : OsState}
variable {nm q : Str} {C N : Addr} {bs bm bmB : List Value} {hdct : Bool} {sn : List Str} {sub : List Value} {ab : Bool} {col : Option Bool} {dd : Option Addr} {k0 k1 k2 k3 k5 : Option Value} {B newId initId : String}
theorem check_newK (F : ExcBaseFacts B newId initId bmB) (hT : bm.contains (.type B) = true ∧ bm.contains (.type "AttributeError") = false ∧ bm.contains (.type "NameError") = false) {rest : List Value} {arg : Str} {u : Value} {Q : Unit → Shared → Prop}
    (hC : h.get? C = some (excClassObj nm q C N bs bm hdct sn sub ab col dd k0 k1 k2 k3 k5 newId)) (hq : Q () ⟨h, g, d, t, os⟩) :
    wpAny M A (checkBuiltinCall newId ⟨.ref C :: rest, [(arg, u)]⟩) Q E ⟨h, g, d, t, os⟩ := by
  have hB : (Value.ref C :: bm).contains (.type B) = true := by
    rw [List.contains_cons, hT.1, Bool.or_true]
  have hst := F.noStar
  simp only [checkBuiltinCall, F.newKind, F.newSplit, F.newRow]
  repeat (first
    | refine wpAny_loadPart_at hC ?_
    | (refine wpAny_isSubtype_exc hC ?_; rw [hB])
    | refine wpAny_staticBase_exc hC ?_
    | refine wpAny_madeBy_exc hC ?_
    | simp only [bne_self_eq_false, Bool.false_eq_true, if_false]
    | wp_step)
  exact hq
theorem newK (F : ExcBaseFacts B newId initId bmB) (hT : bm.contains (.type B) = true ∧ bm.contains (.type "AttributeError") = false ∧ bm.contains (.type "NameError") = false) {rest : List Value} {arg : Str} {u : Value}
    (hC : h.get? C = some (excClassObj nm q C N bs bm hdct sn sub ab col dd k0 k1 k2 k3 k5 newId))
    (hq : R (.ok (.ret (.ref (h.objs.size + 1)))) ⟨(h.push (kdv_tup rest)).push (PySem.HandSPX.excO C h.objs.size), g, d, t, os⟩) (hrest : rest.length ≤ sizeLine) :
    codeAny (model prog w) A (.builtin newId ⟨.ref C :: rest, [(arg, u)]⟩) R ⟨h, g, d, t, os⟩ := by
  have e0 := F.ends
  have e1 : (Value.ref C :: bm).contains (.type B) = true := by rw [List.contains_cons, hT.1, Bool.or_true]
  have e2 : (Value.ref C :: bm).contains (.type "AttributeError") = false := by rw [List.contains_cons, hT.2.1] <;> rfl
  have e3 : (Value.ref C :: bm).contains (.type "NameError") = false := by rw [List.contains_cons, hT.2.2] <;> rfl
  refine codeAny_builtinAt F.entry ?_
  unfold Builtin.«BaseException.__new__»
  refine PySem.wpAt_bind ?_
  show PySem.wpAt _ _ _ (stack >>= _) _ _ _
  refine PySem.wpAt_bind (PySem.wpAt_stack fun p below => PySem.wpAt_of_wpAny ?_)
  wp_walk
  refine PySem.wpAt_of_wpAny ?_
  rw [F.owner]
  repeat (first
    | with_reducible refine wpAny_madeHere_exc F.canon hC ?_
    | with_reducible refine wpAny_loadPart_at hC ?_
    | (with_reducible refine wpAny_isSubtype_exc hC ?_; first | rw [e1] | rw [e2] | rw [e3])
    | wp_step)
  show R _ _
  rw [Heap.size_push]
  exact hq
theorem type_callK (F : ExcBaseFacts B newId initId bmB) (hT : bm.contains (.type B) = true ∧ bm.contains (.type "AttributeError") = false ∧ bm.contains (.type "NameError") = false) {rest : List Value} {arg : Str} {u : Value} {fI : Addr} {Q : PySem.Fin → Shared → Prop}
    (hC : h.get? C = some (excClassObj nm q C N bs bm hdct sn sub ab col dd k0 k1 k2 k3 k5 newId))
    (hi : Looks (model prog w) h (typeLookup (.ref C) "__init__") (some (.ref fI))) (hb : ∀ self, Looks (model prog w) h (bindSpecial (.ref fI) self) (.ref fI, [self])) (hrest : rest.length ≤ sizeLine)
    (hq : codeAny (model prog w) A (.call (.ref fI) ⟨.ref (h.objs.size + 1) :: rest, [(arg, u)]⟩)
      (fun r s' => match r with | .ok (.ret v) => v = .none ∧ Q (.done (.ret (.ref (h.objs.size + 1)))) s' | .ok _ => False | .error e => E e s')
      ⟨(h.push (kdv_tup rest)).push (PySem.HandSPX.excO C h.objs.size), g, d, t, os⟩) :
    wpAny (model prog w) A (Builtin.«type.__call__» ⟨.ref C :: rest, [(arg, u)]⟩) Q E ⟨h, g, d, t, os⟩ := by
  repeat (first
    | with_reducible refine wpAny_loadPart_at hC ?_
    | with_reducible refine wpAny_madeBy_exc hC ?_
    | wp_step)
  refine codeAny_call_builtin_code (Code.quiet_builtin _ F.quiet) (check_newK F hT hC ?_)
  refine newK F hT hC ?_ hrest
  show wpAny _ _ _ _ _ _
  have kp : ∀ b o, h.get? b = some o → ((h.push (kdv_tup rest)).push (PySem.HandSPX.excO C h.objs.size)).get? b = some o :=
    fun b o z => Heap.get?_push_of_some _ (Heap.get?_push_of_some _ z)
  have hC1 := kp _ _ hC
  have hget : ((h.push (kdv_tup rest)).push (PySem.HandSPX.excO C h.objs.size)).get? (h.objs.size + 1) = some (PySem.HandSPX.excO C h.objs.size) := by heap_get
  have hcC : (Value.ref C :: bm).contains (.ref C) = true := by simp
  have j1 := hi.keeps kp
  have j2 := (hb (.ref (h.objs.size + 1))).keeps kp
  unfold isInstance
  repeat (first
    | with_reducible refine wpAny_loadPart_at hget ?_
    | (with_reducible refine wpAny_isSubtype_exc hC1 ?_; rw [hcC])
    | wp_step)
  show wpAny _ _ (typeLookup (.ref C) _) _ _ _
  refine j1.at ?_
  refine wpAny_holding (wpAny_bind (j2.at ?_))
  refine wpAny_bind (wpAny_call (codeAny_mono hq fun r s' z => ?_))
  rcases r with e | (v | _ | _ | _) <;> first | exact z | exact z.elim | skip
  obtain ⟨rfl, z⟩ := z
  first
    | exact wpAny_pure (wpAny_pure z)
    | (wp_walk; exact z)
theorem check_typeK {rest : List Value} {arg : Str} {u : Value} {Q : Unit → Shared → Prop} (hC : h.get? C = some (excClassObj nm q C N bs bm hdct sn sub ab col dd k0 k1 k2 k3 k5 newId))
    (hq : Q () ⟨h, g, d, t, os⟩) : wpAny M A (checkBuiltinCall "type.__call__" ⟨.ref C :: rest, [(arg, u)]⟩) Q E ⟨h, g, d, t, os⟩ := by
  have f3 := tc_sub
  have hTy : (⟨h, g, d, t, os⟩ : Shared).TypeIs (.ref C) "type" := ⟨_, hC, rfl⟩
  simp only [checkBuiltinCall, tc_kind, tc_split]
  repeat (any_goals (first
    | assumption
    | with_reducible refine wpAny_loadPart_at hC ?_
    | with_reducible refine wpAny_onRaise ?_
    | with_reducible refine wpAny_map ?_
    | wp_step))
theorem callK (F : ExcBaseFacts B newId initId bmB) (hT : bm.contains (.type B) = true ∧ bm.contains (.type "AttributeError") = false ∧ bm.contains (.type "NameError") = false) {rest : List Value} {arg : Str} {u : Value} {fI : Addr}
    (hC : h.get? C = some (excClassObj nm q C N bs bm hdct sn sub ab col dd k0 k1 k2 k3 k5 newId))
    (hi : Looks (model prog w) h (typeLookup (.ref C) "__init__") (some (.ref fI))) (hb : ∀ self, Looks (model prog w) h (bindSpecial (.ref fI) self) (.ref fI, [self])) (hrest : rest.length ≤ sizeLine)
    (hq : codeAny (model prog w) (A.under (.builtin "type.__call__" ⟨.ref C :: rest, [(arg, u)]⟩)) (.call (.ref fI) ⟨.ref (h.objs.size + 1) :: rest, [(arg, u)]⟩) (InitBack (h.objs.size + 1) R)
      ⟨(h.push (kdv_tup rest)).push (PySem.HandSPX.excO C h.objs.size), g, d, t, os⟩) :
    codeAny (model prog w) A (.call (.ref C) ⟨rest, [(arg, u)]⟩) R ⟨h, g, d, t, os⟩ := by
  have f1 := tc_lookup
  have f2 := tc_bind (.ref C)
  have hTy : (⟨h, g, d, t, os⟩ : Shared).TypeIs (.ref C) "type" := ⟨_, hC, rfl⟩
  refine codeAny_of_tree ?_
  show wpAny _ _ (callAny (.ref C) _) _ _ _
  repeat (any_goals (first
    | assumption
    | with_reducible refine wpAny_loadPart_at hC ?_
    | wp_step))
  refine ⟨rfl, ?_⟩
  refine codeAny_call_builtin_at (Code.quiet_builtin _ (by decide +kernel)) entry_typeCall (check_typeK hC (type_callK F hT hC hi hb hrest ?_))
  refine codeAny_mono hq fun r s' z => ?_
  rcases r with e | (v | _ | _ | _) <;> exact z
theorem check_new0 (F : ExcBaseFacts B newId initId bmB) (hT : bm.contains (.type B) = true ∧ bm.contains (.type "AttributeError") = false ∧ bm.contains (.type "NameError") = false) {rest : List Value} {Q : Unit → Shared → Prop}
    (hC : h.get? C = some (excClassObj nm q C N bs bm hdct sn sub ab col dd k0 k1 k2 k3 k5 newId)) (hq : Q () ⟨h, g, d, t, os⟩) :
    wpAny M A (checkBuiltinCall newId ⟨.ref C :: rest, []⟩) Q E ⟨h, g, d, t, os⟩ := by
  have hB : (Value.ref C :: bm).contains (.type B) = true := by
    rw [List.contains_cons, hT.1, Bool.or_true]
  have hst := F.noStar
  simp only [checkBuiltinCall, F.newKind, F.newSplit, F.newRow]
  repeat (first
    | refine wpAny_loadPart_at hC ?_
    | (refine wpAny_isSubtype_exc hC ?_; rw [hB])
    | refine wpAny_staticBase_exc hC ?_
    | refine wpAny_madeBy_exc hC ?_
    | simp only [bne_self_eq_false, Bool.false_eq_true, if_false]
    | wp_step)
  exact hq
theorem new0 (F : ExcBaseFacts B newId initId bmB) (hT : bm.contains (.type B) = true ∧ bm.contains (.type "AttributeError") = false ∧ bm.contains (.type "NameError") = false) {rest : List Value}
    (hC : h.get? C = some (excClassObj nm q C N bs bm hdct sn sub ab col dd k0 k1 k2 k3 k5 newId))
    (hq : R (.ok (.ret (.ref (h.objs.size + 1)))) ⟨(h.push (kdv_tup rest)).push (PySem.HandSPX.excO C h.objs.size), g, d, t, os⟩) (hrest : rest.length ≤ sizeLine) :
    codeAny (model prog w) A (.builtin newId ⟨.ref C :: rest, []⟩) R ⟨h, g, d, t, os⟩ := by
  have e0 := F.ends
  have e1 : (Value.ref C :: bm).contains (.type B) = true := by rw [List.contains_cons, hT.1, Bool.or_true]
  have e2 : (Value.ref C :: bm).contains (.type "AttributeError") = false := by rw [List.contains_cons, hT.2.1] <;> rfl
  have e3 : (Value.ref C :: bm).contains (.type "NameError") = false := by rw [List.contains_cons, hT.2.2] <;> rfl
  refine codeAny_builtinAt F.entry ?_
  unfold Builtin.«BaseException.__new__»
  refine PySem.wpAt_bind ?_
  show PySem.wpAt _ _ _ (stack >>= _) _ _ _
  refine PySem.wpAt_bind (PySem.wpAt_stack fun p below => PySem.wpAt_of_wpAny ?_)
  wp_walk
  refine PySem.wpAt_of_wpAny ?_
  rw [F.owner]
  repeat (first
    | with_reducible refine wpAny_madeHere_exc F.canon hC ?_
    | with_reducible refine wpAny_loadPart_at hC ?_
    | (with_reducible refine wpAny_isSubtype_exc hC ?_; first | rw [e1] | rw [e2] | rw [e3])
    | wp_step)
  show R _ _
  rw [Heap.size_push]
  exact hq
theorem type_call0 (F : ExcBaseFacts B newId initId bmB) (hT : bm.contains (.type B) = true ∧ bm.contains (.type "AttributeError") = false ∧ bm.contains (.type "NameError") = false) {rest : List Value} {fI : Addr} {Q : PySem.Fin → Shared → Prop}
    (hC : h.get? C = some (excClassObj nm q C N bs bm hdct sn sub ab col dd k0 k1 k2 k3 k5 newId))
    (hi : Looks (model prog w) h (typeLookup (.ref C) "__init__") (some (.ref fI))) (hb : ∀ self, Looks (model prog w) h (bindSpecial (.ref fI) self) (.ref fI, [self])) (hrest : rest.length ≤ sizeLine)
    (hq : codeAny (model prog w) A (.call (.ref fI) ⟨.ref (h.objs.size + 1) :: rest, []⟩)
      (fun r s' => match r with | .ok (.ret v) => v = .none ∧ Q (.done (.ret (.ref (h.objs.size + 1)))) s' | .ok _ => False | .error e => E e s')
      ⟨(h.push (kdv_tup rest)).push (PySem.HandSPX.excO C h.objs.size), g, d, t, os⟩) :
    wpAny (model prog w) A (Builtin.«type.__call__» ⟨.ref C :: rest, []⟩) Q E ⟨h, g, d, t, os⟩ := by
  repeat (first
    | with_reducible refine wpAny_loadPart_at hC ?_
    | with_reducible refine wpAny_madeBy_exc hC ?_
    | wp_step)
  refine codeAny_call_builtin_code (Code.quiet_builtin _ F.quiet) (check_new0 F hT hC ?_)
  refine new0 F hT hC ?_ hrest
  show wpAny _ _ _ _ _ _
  have kp : ∀ b o, h.get? b = some o → ((h.push (kdv_tup rest)).push (PySem.HandSPX.excO C h.objs.size)).get? b = some o :=
    fun b o z => Heap.get?_push_of_some _ (Heap.get?_push_of_some _ z)
  have hC1 := kp _ _ hC
  have hget : ((h.push (kdv_tup rest)).push (PySem.HandSPX.excO C h.objs.size)).get? (h.objs.size + 1) = some (PySem.HandSPX.excO C h.objs.size) := by heap_get
  have hcC : (Value.ref C :: bm).contains (.ref C) = true := by simp
  have j1 := hi.keeps kp
  have j2 := (hb (.ref (h.objs.size + 1))).keeps kp
  unfold isInstance
  repeat (first
    | with_reducible refine wpAny_loadPart_at hget ?_
    | (with_reducible refine wpAny_isSubtype_exc hC1 ?_; rw [hcC])
    | wp_step)
  show wpAny _ _ (typeLookup (.ref C) _) _ _ _
  refine j1.at ?_
  refine wpAny_holding (wpAny_bind (j2.at ?_))
  refine wpAny_bind (wpAny_call (codeAny_mono hq fun r s' z => ?_))
  rcases r with e | (v | _ | _ | _) <;> first | exact z | exact z.elim | skip
  obtain ⟨rfl, z⟩ := z
  first
    | exact wpAny_pure (wpAny_pure z)
    | (wp_walk; exact z)
theorem check_type0 {rest : List Value} {Q : Unit → Shared → Prop} (hC : h.get? C = some (excClassObj nm q C N bs bm hdct sn sub ab col dd k0 k1 k2 k3 k5 newId))
    (hq : Q () ⟨h, g, d, t, os⟩) : wpAny M A (checkBuiltinCall "type.__call__" ⟨.ref C :: rest, []⟩) Q E ⟨h, g, d, t, os⟩ := by
  have f3 := tc_sub
  have hTy : (⟨h, g, d, t, os⟩ : Shared).TypeIs (.ref C) "type" := ⟨_, hC, rfl⟩
  simp only [checkBuiltinCall, tc_kind, tc_split]
  repeat (any_goals (first
    | assumption
    | with_reducible refine wpAny_loadPart_at hC ?_
    | with_reducible refine wpAny_onRaise ?_
    | with_reducible refine wpAny_map ?_
    | wp_step))
theorem call0 (F : ExcBaseFacts B newId initId bmB) (hT : bm.contains (.type B) = true ∧ bm.contains (.type "AttributeError") = false ∧ bm.contains (.type "NameError") = false) {rest : List Value} {fI : Addr}
    (hC : h.get? C = some (excClassObj nm q C N bs bm hdct sn sub ab col dd k0 k1 k2 k3 k5 newId))
    (hi : Looks (model prog w) h (typeLookup (.ref C) "__init__") (some (.ref fI))) (hb : ∀ self, Looks (model prog w) h (bindSpecial (.ref fI) self) (.ref fI, [self])) (hrest : rest.length ≤ sizeLine)
    (hq : codeAny (model prog w) (A.under (.builtin "type.__call__" ⟨.ref C :: rest, []⟩)) (.call (.ref fI) ⟨.ref (h.objs.size + 1) :: rest, []⟩) (InitBack (h.objs.size + 1) R)
      ⟨(h.push (kdv_tup rest)).push (PySem.HandSPX.excO C h.objs.size), g, d, t, os⟩) :
    codeAny (model prog w) A (.call (.ref C) ⟨rest, []⟩) R ⟨h, g, d, t, os⟩ := by
  have f1 := tc_lookup
  have f2 := tc_bind (.ref C)
  have hTy : (⟨h, g, d, t, os⟩ : Shared).TypeIs (.ref C) "type" := ⟨_, hC, rfl⟩
  refine codeAny_of_tree ?_
  show wpAny _ _ (callAny (.ref C) _) _ _ _
  repeat (any_goals (first
    | assumption
    | with_reducible refine wpAny_loadPart_at hC ?_
    | wp_step))
  refine ⟨rfl, ?_⟩
  refine codeAny_call_builtin_at (Code.quiet_builtin _ (by decide +kernel)) entry_typeCall (check_type0 hC (type_call0 F hT hC hi hb hrest ?_))
  refine codeAny_mono hq fun r s' z => ?_
  rcases r with e | (v | _ | _ | _) <;> exact z
end
end TS
namespace TS
open PySem PySem.Spec PyProof.Rows PySem.W PySem.Calls L2
/-- the heap with a new error of the class at C, its attribute fld is v -/
def errH (H : Hp) (a dx C : Addr) (fld : Str) (v : V) : Hp := upd (upd H dx (exd dx [(fld, v)])) a (exo a C (some dx))
theorem errH_of {H : Hp} {a dx C : Addr} {fld : Str} {v : V} (ne : dx ≠ a) : upd (upd (upd H a (exo a C none)) dx (exd dx [(fld, v)])) a (exo a C (some dx)) = errH H a dx C fld v := by
  funext b
  unfold errH
  by_cases hb : b = a
  · rw [hb, upd_same, upd_same]
  · rw [upd_ne hb, upd_ne hb]
    by_cases hd : b = dx
    · rw [hd, upd_same, upd_same]
    · rw [upd_ne hd, upd_ne hd, upd_ne hb]
/-- C(e): a new error -/
def tErr (C : Addr) (fld : Str) (te : TE) : TE := fun σ H Q => te σ H fun v H1 => ∀ a dx, H1 a = none → H1 dx = none → dx ≠ a → Q (.ref a) (errH H1 a dx C fld v)
section
variable {X : Cx} {e : Expr} {te : TE} {p pos kpos : Pos} {x arg fld : Str} {C fI : Addr} {k : Nat} {fd : FuncData} {B newId initId : String} {bmB : List Value}
/-- the call of the class, positional -/
theorem run_err {nm qn : Str} {N : Addr} {bs bm sub : List Value} {sn : List Str} {ab : Bool} {col : Option Bool} {dd : Option Addr} {k0 k1 k2 k3 k5 : Option Value} {pins : List (Addr × Obj)} {σ : L2.St} {H1 : Hp} {Q : VK} {s1 : Shared} {v : V} {u : Value}
    (T : ErrK X.K C B newId initId bmB) (hC : X.K.lookup C = some (excClassObj nm qn C N bs bm true sn sub ab col dd k0 k1 k2 k3 k5 newId)) (hbm : excTail bmB bm = true)
    (iC : findIn X.K (.ref C) "__init__" = some (some (.ref fI))) (tI : typeIn X.K (.ref fI) = some (.type "function"))
    (F1 : FnOk X.prog X.w X.K X.mg X.base CX0 k fI fd ["self", arg] (spIni C fld)) (hr : Room (k + 1) X.A) (I1 : Inv X pins σ H1 s1) (rv : RelV v u)
    (hb : ∀ (s2 : Shared) , X.K.In s2.heap → BindsTo s2 fd ⟨[Value.ref (s1.heap.objs.size + 1), u], []⟩ ((["self", arg] : List Str).zip [Value.ref (s1.heap.objs.size + 1), u]))
    (q : ∀ a, H1 a = none → ∀ dx, H1 dx = none → dx ≠ a → Q (.ref a) (errH H1 a dx C fld v)) :
    wpAny (model X.prog X.w) X.A (call (.ref C) [u]) (EP X pins σ Q) X.xe s1 := by
  obtain ⟨Bn, iN, bmN, NF, hB⟩ := T.NF
  have hT : bm.contains (.type Bn) = true ∧ bm.contains (.type "AttributeError") = false ∧ bm.contains (.type "NameError") = false :=
    ⟨(excTail_contains _ bm hbm).trans hB, (excTail_contains _ bm hbm).trans T.noA, (excTail_contains _ bm hbm).trans T.noN⟩
  obtain ⟨hp, g, dr, tk, os⟩ := s1
  have hsz : hp.objs.size ≤ hp.objs.size + 1 := Nat.le_succ _
  have hn : H1 (hp.objs.size + 1) = none := I1.hok.fresh hsz
  have kk : ∀ b o, hp.get? b = some o → ((hp.push (kdv_tup [u])).push (PySem.HandSPX.excO C hp.objs.size)).get? b = some o :=
    fun b o z => Heap.get?_push_of_some _ (Heap.get?_push_of_some _ z)
  have hget : ((hp.push (kdv_tup [u])).push (PySem.HandSPX.excO C hp.objs.size)).get? (hp.objs.size + 1) = some (PySem.HandSPX.excO C hp.objs.size) := by heap_get
  have I2 : Inv X pins σ (upd H1 (hp.objs.size + 1) (exo (hp.objs.size + 1) C none)) ⟨(hp.push (kdv_tup [u])).push (PySem.HandSPX.excO C hp.objs.size), g, dr, tk, os⟩ :=
    I1.laid (t' := tk) (a := hp.objs.size + 1) (o := exo (hp.objs.size + 1) C none) (h' := (hp.push (kdv_tup [u])).push (PySem.HandSPX.excO C hp.objs.size)) kk hsz (exo_ok hget)
  refine wpAny_call (call0 NF hT (I1.kIn _ _ hC) (looks_findIn I1.kIn iC) (fun self => bind_fn I1.kIn self tI) (by show 1 ≤ sizeLine; decide)
    (codeAny_mono (F1.run _ X.stack _ _ ⟨[Value.ref (hp.objs.size + 1), u], []⟩ [Value.ref (hp.objs.size + 1), u] [.ref (hp.objs.size + 1), v] (fun y H2 => y = .non ∧ Q (.ref (hp.objs.size + 1)) H2) (fun _ _ _ => False)
      (hr.make C [u] []) (I2.env0.make C [u] []) (hb _ I2.kIn) (.cons rfl (.cons rv .nil)) ⟨_, v, rfl, upd_same, fun dx hd ne => ⟨rfl, ?_⟩⟩) fun r s' hq' => ?_))
  · rw [errH_of ne]
    exact q _ hn dx (by rw [upd_ne ne] at hd; exact hd) ne
  · cases r with
    | error er => exact hq'.elim
    | ok fl =>
      cases fl with
      | ret u' =>
        obtain ⟨y, H2, J, ry, ey, q2⟩ := I2.after hq'
        subst ey
        exact ⟨ry, .ref _, H2, J, rfl, q2⟩
      | next => exact False.elim hq'
      | brk => exact False.elim hq'
      | cont => exact False.elim hq'
theorem pe_err (T : ErrK X.K C B newId initId bmB) (iC : findIn X.K (.ref C) "__init__" = some (some (.ref fI))) (tI : typeIn X.K (.ref fI) = some (.type "function"))
    (F1 : FnOk X.prog X.w X.K X.mg X.base CX0 k fI fd ["self", arg] (spIni C fld)) (hr : Room (k + 1) X.A) (hb : Binds X.K fd ["self", arg] []) (hg : Gl X x) (hm : X.mg x = some (.ref C)) (he : PE X e te)
    (hdb : (x == ("__debug__" : Str)) = false := by decide) (hs : starEach [e] X.env = (false, eval e X.env) :: starEach [] X.env := by rfl) :
    PE X (.Call (.Name x p) [e] [] pos) (tErr C fld te) := by
  refine ⟨fun pins s σ H Q I h => ?_⟩
  obtain ⟨nm, qn, N, bs, bm, sn, sub, ab, col, dd, k0, k1, k2, k3, k5, hC, hbm⟩ := T.cls
  refine wpAny_Call_Name_kw (ld_glob I hg hm ?_ hdb)
  have hA : PA X [e] (tCons te tNil) := pa_cons he pa_nil hs
  refine callWith_K (h₀ := X.base) I.ok.mod.kin T.kC (thn (hA.run pos pins s σ H (fun vs H1 => match vs with
    | [v] => ∀ a dx, H1 a = none → H1 dx = none → dx ≠ a → Q (.ref a) (errH H1 a dx C fld v)
    | _ => False) I h) fun us s1 ⟨vs, H1, I1, r1, q1⟩ => ⟨I1.kIn, ?_⟩) hs rfl
  obtain ⟨v, u, rfl, rfl, rv⟩ : ∃ v u, vs = [v] ∧ us = [u] ∧ RelV v u := by
    cases r1 with
    | nil => exact q1.elim
    | cons ra rr =>
      cases rr with
      | nil => exact ⟨_, _, rfl, rfl, ra⟩
      | cons _ _ => exact q1.elim
  exact run_err T hC hbm iC tI F1 hr I1 rv (fun hp2 kin => hb _ _ kin rfl) (fun a hn dx hd ne => q1 a dx hn hd ne)
end
end TS
namespace TS
open PySem PySem.Spec PyProof.Rows PySem.W PySem.Calls L2
/-! an own error whose __init__ calls super().__init__(text), raised -/
/-- what is known of such a class: over any built-in base -/
structure ErrC (P : Program) (w : World) (K : Frag) (mg : Str → Option Value) (base : Heap) (x fld : Str) (C : Addr) : Prop where
  made : ∃ (B newId initId : String) (bmB : List Value) (fI : Addr) (fd : FuncData), ErrK K C B newId initId bmB ∧ findIn K (.ref C) "__init__" = some (some (.ref fI)) ∧ typeIn K (.ref fI) = some (.type "function") ∧
    FnOk P w K mg base CX0 1 fI fd ["self", fld] (spIni C fld) ∧ Binds K fd ["self", fld] []
  mgC : mg x = some (.ref C)
  xf : XfC K C
  no : findIn K (.ref C) fld = some none
/-- C(e), made to be raised: the error stands in the air with its dict -/
def tMkErr (C : Addr) (fld : Str) (te : TE) : L2.St → Hp → XK → Prop := fun σ H Q => te σ H fun v H1 => ∀ d, H1 d = none → Q (.ref C) (some d) (upd H1 d (.xd [(fld, v)]))
section
variable {X : Cx} {e : Expr} {te : TE} {p pos : Pos} {x fld : Str} {C : Addr}
theorem air_eq {H : Hp} {a d : Addr} {o : HO} (ha : H a = none) (hd : d ≠ a) {u : HO} : upd (del (upd (upd (upd H a o) d u) a o) a) d (HO.xd []) = upd H d (HO.xd []) := by
  funext b
  by_cases hb : b = d
  · rw [hb, upd_same, upd_same]
  · rw [upd_ne hb, upd_ne hb]
    by_cases hba : b = a
    · rw [hba, del_same, ha]
    · rw [del_ne hba, upd_ne hba, upd_ne hb, upd_ne hba]
theorem pmk_err (E : ErrC X.prog X.w X.K X.mg X.base x fld C) (hr : Room 2 X.A) (hg : Gl X x) (he : PE X e te) (hdb : (x == ("__debug__" : Str)) = false := by decide +kernel) (hs : starEach [e] X.env = (false, eval e X.env) :: starEach [] X.env := by rfl) :
    PMk X (.Call (.Name x p) [e] [] pos) (tMkErr C fld te) := by
  obtain ⟨B, newId, initId, bmB, fI, fd, T, iC, tI, F1, hb⟩ := E.made
  intro pins s σ H Q I h
  obtain ⟨nm, qn, N, bs, bm, sn, sub, ab, col, dd, k0, k1, k2, k3, k5, hC, hbm⟩ := T.cls
  obtain ⟨Bn, iN, bmN, NF, hB⟩ := T.NF
  have hT : bm.contains (.type Bn) = true ∧ bm.contains (.type "AttributeError") = false ∧ bm.contains (.type "NameError") = false :=
    ⟨(excTail_contains _ bm hbm).trans hB, (excTail_contains _ bm hbm).trans T.noA, (excTail_contains _ bm hbm).trans T.noN⟩
  refine wpAny_Call_Name_kw (ld_glob I hg E.mgC ?_ hdb)
  have hA : PA X [e] (tCons te tNil) := pa_cons he pa_nil hs
  refine callWith_K (h₀ := X.base) I.ok.mod.kin T.kC (thn (hA.run pos pins s σ H (fun vs H1 => match vs with
    | [v] => ∀ d, H1 d = none → Q (.ref C) (some d) (upd H1 d (.xd [(fld, v)]))
    | _ => False) I h) fun us s1 ⟨vs, H1, I1, r1, q1⟩ => ⟨I1.kIn, ?_⟩) hs rfl
  obtain ⟨v, u, rfl, rfl, rv⟩ : ∃ v u, vs = [v] ∧ us = [u] ∧ RelV v u := by
    cases r1 with
    | nil => exact q1.elim
    | cons ra rr =>
      cases rr with
      | nil => exact ⟨_, _, rfl, rfl, ra⟩
      | cons _ _ => exact q1.elim
  show wpAny _ _ (call (.ref C) [u]) _ _ _
  obtain ⟨hp, g, dr, tk, os⟩ := s1
  have hsz : hp.objs.size ≤ hp.objs.size + 1 := Nat.le_succ _
  have hn : H1 (hp.objs.size + 1) = none := I1.hok.fresh hsz
  have kk : ∀ b o, hp.get? b = some o → ((hp.push (kdv_tup [u])).push (PySem.HandSPX.excO C hp.objs.size)).get? b = some o :=
    fun b o z => Heap.get?_push_of_some _ (Heap.get?_push_of_some _ z)
  have hget : ((hp.push (kdv_tup [u])).push (PySem.HandSPX.excO C hp.objs.size)).get? (hp.objs.size + 1) = some (PySem.HandSPX.excO C hp.objs.size) := by heap_get
  have I2 : Inv X pins σ (upd H1 (hp.objs.size + 1) (exo (hp.objs.size + 1) C none)) ⟨(hp.push (kdv_tup [u])).push (PySem.HandSPX.excO C hp.objs.size), g, dr, tk, os⟩ :=
    I1.laid (t' := tk) (a := hp.objs.size + 1) (o := exo (hp.objs.size + 1) C none) (h' := (hp.push (kdv_tup [u])).push (PySem.HandSPX.excO C hp.objs.size)) kk hsz (exo_ok hget)
  refine wpAny_call (call0 NF hT (I1.kIn _ _ hC) (looks_findIn I1.kIn iC) (fun self => bind_fn I1.kIn self tI) (by show 1 ≤ sizeLine; decide)
    (codeAny_mono (F1.run _ X.stack _ _ ⟨[Value.ref (hp.objs.size + 1), u], []⟩ [Value.ref (hp.objs.size + 1), u] [.ref (hp.objs.size + 1), v]
      (fun y H2 => y = .non ∧ ∃ dx, H1 dx = none ∧ dx ≠ hp.objs.size + 1 ∧ H2 = upd (upd (upd H1 (hp.objs.size + 1) (exo (hp.objs.size + 1) C none)) dx (exd dx [(fld, v)])) (hp.objs.size + 1) (exo (hp.objs.size + 1) C (some dx))) (fun _ _ _ => False)
      (hr.make C [u] []) (I2.env0.make C [u] []) (hb _ _ I2.kIn rfl) (.cons rfl (.cons rv .nil)) ⟨_, v, rfl, upd_same, fun dx hd ne => ⟨rfl, dx, (by rw [upd_ne ne] at hd; exact hd), ne, rfl⟩⟩) fun r s' hq' => ?_))
  cases r with
  | error er => exact hq'.elim
  | ok fl =>
    cases fl with
    | ret u' =>
      obtain ⟨y, H2, os2, bare2, un2, hok2, ry, ey, dx, hdx, hne, eH⟩ := hq'
      subst ey
      obtain ⟨h2, g2, d2, t2, os'⟩ := s'
      have ea : H2 (hp.objs.size + 1) = some (exo (hp.objs.size + 1) C (some dx)) := by rw [eH, upd_same]
      have ed : H2 dx = some (exd dx [(fld, v)]) := by rw [eH, upd_ne hne, upd_same]
      have ef : upd (del H2 (hp.objs.size + 1)) dx (.xd [(fld, v)]) = upd H1 dx (.xd [(fld, v)]) := by
        rw [eH]
        funext b
        by_cases hb : b = dx
        · rw [hb, upd_same, upd_same]
        · rw [upd_ne hb, upd_ne hb]
          by_cases hba : b = hp.objs.size + 1
          · rw [hba, del_same, hn]
          · rw [del_ne hba, upd_ne hba, upd_ne hb, upd_ne hba]
      refine ⟨ry, mk_end (raises_own T.exC T.tyC) I1 hsz kk un2 hok2 os2 bare2 ea ed hdx ?_⟩
      rw [ef]
      exact q1 dx hdx
    | next => exact False.elim hq'
    | brk => exact False.elim hq'
    | cont => exact False.elim hq'
/-- raise C(e) -/
theorem ps_raiseErr {W : WX} {pos2 : Pos} (E : ErrC X.prog X.w X.K X.mg X.base x fld C) (hc : X.calm = true) (hr : Room 2 X.A) (tk : Takes X W) (hg : Gl X x) (he : PE X e te) (hdb : (x == ("__debug__" : Str)) = false := by decide +kernel) (hs : starEach [e] X.env = (false, eval e X.env) :: starEach [] X.env := by rfl) :
    PS X (.Raise (some (.Call (.Name x p) [e] [] pos)) none pos2) (fun _ σ H => tMkErr C fld te σ H fun cls d H' => W cls d σ H') := ps_raise hc tk (pmk_err E hr hg he hdb hs)
end
end TS
namespace TS
open PySem PySem.Spec PyProof.Rows L2
/-! a staticmethod called off its class; a method whose errors are wished for at the caller's slots -/
structure SMet (K : PySem.W.Frag) (C : Addr) (mc : Value) (m : Str) (p g : Addr) : Prop where
  rd : PySem.W.readsIn K C mc = true
  ga : PySem.W.specialIn K (.ref C) "__getattribute__" = some (some (.builtin "type.__getattribute__"))
  at_ : PySem.W.findCls K (.ref C) mc m = some (.get (.builtin "staticmethod.__get__") (.ref p) .none (.ref C))
  rc : ∃ rest, PySem.W.recIn K p "staticmethod" = some (.ref g :: rest)
  kp : PySem.W.keepIn K (.ref g) = true
/-- C.m(..), m a staticmethod -/
def tSMeth (C : Addr) (sp : Sp) (E : XK) (ta : TE) (t : TA) : TE := fun σ H Q => ta σ H fun x H1 => x = .ref C ∧ t σ H1 fun vs H2 => sp vs H2 Q E
/-- o.m(..), E at the caller's slots -/
def tMethE (C : Addr) (m : Str) (sp : Sp) (E : L2.St → XK) (ta : TE) (t : TA) : TE := fun σ H Q => ta σ H fun x H1 => ∃ a dx fs, x = .ref a ∧ H1 a = some (.ins C dx fs) ∧ fs.lookup m = none ∧ t σ H1 fun vs H2 => sp (x :: vs) H2 Q (E σ)
section
variable {X : Cx} {CX : CXT} {k : Nat} {C p f g : Addr} {mc : Value} {fd : FuncData} {ps : List Str} {sp : Sp} {E : XK} {o e : Expr} {es : List Expr} {m : Str} {pos apos : Pos} {ta : TE} {t : TA} {pl : Sem Bool}
theorem pe_smeth (he : PE X o ta) (c : SMet X.K C mc m p g) (F : FnOk X.prog X.w X.K X.mg X.base CX k g fd ps sp) (hr : Room k X.A) (hb : Binds X.K fd ps []) (hx : Passes CX X E) (ha : PA X (e :: es) t)
    (hst : starEach (e :: es) X.env = (false, eval e X.env) :: starEach es X.env := by rfl) (hpl : (backTo pos (starEach es X.env)).any (·.1) = false := by rfl)
    (ht : eval (.Call (.Attribute o m apos) (e :: es) [] pos) X.env = (do
      let ov ← eval o X.env
      standAt apos.atName
      let (f, first) ← holding [ov] (getMethod ov m pl)
      callWith pos f first (backTo pos (starEach (e :: es) X.env)) (backToKw pos (keywordEach [] X.env))) := by rfl) :
    PE X (.Call (.Attribute o m apos) (e :: es) [] pos) (tSMeth C sp E ta t) := by
  refine ⟨fun pins s σ H Q I h => ?_⟩
  refine PySem.W.methodCall_KW (pl := pl) (thn (he.run pins s σ H _ I h) fun u s1 ⟨x, H1, I1, rx, ex, q⟩ => ?_) ht
  subst ex
  obtain rfl : u = Value.ref C := rx
  obtain ⟨rest, hp⟩ := c.rc
  refine PySem.W.method_cls I1.kIn c.ga (PySem.W.cls_bind I1.kIn c.rd c.at_ ?_)
  refine wpAny_call (PySem.W.sm_get (s := { s1 with toks := s1.toks + 1 }) I1.kIn hp (PySem.W.handed_on rfl ?_))
  have I2 := I1.tok (s1.toks + 1)
  refine PySem.W.callWith_K (first := []) (h₀ := X.base) I.ok.mod.kin c.kp (thn (ha.run pos pins _ σ H1 _ I2 q) fun us s2 ⟨vs, H2, I3, r, q2⟩ => ⟨I3.kIn, ?_⟩) hst hpl
  exact run_fn (us := us) (vs := vs) (ds := []) (dvs := []) F hr hb .nil hx I3 r (by rw [List.append_nil]; exact q2)
theorem pe_methE {E : L2.St → XK} (he : PE X o ta) (c : Cls X.K C) (hm : Meth X.K C m f) (F : FnOk X.prog X.w X.K X.mg X.base CX k f fd ps sp) (hr : Room k X.A) (hb : Binds X.K fd ps []) (hx : ∀ σ, PassesAt CX X σ (E σ)) (ha : PA X (e :: es) t)
    (hst : starEach (e :: es) X.env = (false, eval e X.env) :: starEach es X.env := by rfl) (hpl : (backTo pos (starEach es X.env)).any (·.1) = false := by rfl)
    (ht : eval (.Call (.Attribute o m apos) (e :: es) [] pos) X.env = (do
      let ov ← eval o X.env
      standAt apos.atName
      let (f, first) ← holding [ov] (getMethod ov m pl)
      callWith pos f first (backTo pos (starEach (e :: es) X.env)) (backToKw pos (keywordEach [] X.env))) := by rfl) :
    PE X (.Call (.Attribute o m apos) (e :: es) [] pos) (tMethE C m sp E ta t) := by
  refine ⟨fun pins s σ H Q I h => ?_⟩
  refine PySem.W.methodCall_KW (pl := pl) (thn (he.run pins s σ H _ I h) fun u s1 ⟨x, H1, I1, rx, a, dx, fs, ex, ea, l, q⟩ => ?_) ht
  subst ex
  obtain rfl : u = Value.ref a := rx
  refine getmeth_ok I1 ea c hm l ?_
  refine PySem.W.callWith_K (first := [.ref a]) (h₀ := X.base) I.ok.mod.kin hm.kp (thn (ha.run pos pins s1 σ H1 _ I1 q) fun us s2 ⟨vs, H2, I2, r, q2⟩ => ⟨I2.kIn, ?_⟩) hst hpl
  exact run_fnS (us := .ref a :: us) (vs := .ref a :: vs) F hr hb (hx σ) I2 (.cons rfl r) q2
end
end TS
namespace TS
open PySem PySem.Spec PyProof.Rows L2
/-! C(..), an own class whose `__init__` may raise, E at the caller's slots -/
def tMakeE (C : Addr) (sp : Sp) (E : L2.St → XK) (t : TA) : TE := fun σ H Q => t σ H fun vs H1 => ∀ x dx, H1 x = none → H1 dx = none → dx ≠ x →
  sp (.ref x :: vs) (upd (upd H1 dx (.own x)) x (.ins C dx [])) (fun v H2 => v = .non ∧ Q (.ref x) H2) (E σ)
section
variable {X : Cx} {CX : CXT} {k : Nat} {C f : Addr} {fd : FuncData} {ps : List Str} {sp : Sp} {x : Str} {e : Expr} {es : List Expr} {p pos : Pos} {t : TA}
theorem run_makeS {E : L2.St → XK} {pins : List (Addr × Obj)} {σ : L2.St} {H : Hp} {s : Shared} {Q : VK} {us : List Value} {vs : List V} (M : Mk X.K C f) (F : FnOk X.prog X.w X.K X.mg X.base CX k f fd ps sp) (hr : Room (k + 1) X.A) (hb : Binds X.K fd ps []) (hx : PassesAt CX X σ (E σ)) (I : Inv X pins σ H s) (r : Vals vs us)
    (q : ∀ x dx, H x = none → H dx = none → dx ≠ x → sp (.ref x :: vs) (upd (upd H dx (.own x)) x (.ins C dx [])) (fun v H2 => v = .non ∧ Q (.ref x) H2) (E σ)) :
    wpAny (model X.prog X.w) X.A (call (.ref C) us) (EP X pins σ Q) X.xe s := by
  have hn : H (s.heap.objs.size) = none := I.hok.fresh (Nat.le_refl _)
  have hn1 : H (s.heap.objs.size + 1) = none := I.hok.fresh (Nat.le_succ _)
  have tI : PySem.W.typeIn X.K (.ref f) = some (.type "function") := by
    have := M.fn
    unfold PySem.W.isFn at this
    simpa using this
  have I2 := I.made (C := C)
  have q2 := q (s.heap.objs.size + 1) s.heap.objs.size hn1 hn (Nat.ne_of_lt (Nat.lt_succ_self _))
  have r2 : Vals (.ref (s.heap.objs.size + 1) :: vs) (Value.ref (s.heap.objs.size + 1) :: us) := .cons rfl r
  have r3 := r2.append (.nil : Vals [] [])
  have hl : ((Value.ref (s.heap.objs.size + 1) :: us) ++ []).length = ps.length := by
    rw [← r3.length, List.append_nil]
    exact F.len _ _ _ _ q2
  have q3 : sp ((.ref (s.heap.objs.size + 1) :: vs) ++ []) (upd (upd H s.heap.objs.size (.own (s.heap.objs.size + 1))) (s.heap.objs.size + 1) (.ins C s.heap.objs.size [])) (fun v H2 => v = .non ∧ Q (.ref (s.heap.objs.size + 1)) H2) (E σ) := by
    rw [List.append_nil]
    exact q2
  refine wpAny_call (make_map I.kIn M.makes M.init tI (codeAny_mono (F.run _ X.stack _ _ ⟨Value.ref (s.heap.objs.size + 1) :: us, []⟩ ((Value.ref (s.heap.objs.size + 1) :: us) ++ []) _ _ (E σ) (hr.make C us []) (I2.env0.make C us []) (hb _ _ I2.kIn hl) r3 q3) fun r' s' hq => ?_))
  cases r' with
  | error er => exact hx pins _ _ er s' I2 hq
  | ok fl =>
    cases fl with
    | ret u =>
      obtain ⟨v, H2, I3, rv, ev, qq⟩ := I2.after hq
      subst ev
      obtain rfl : u = Value.none := rv
      exact ⟨rfl, .ref (s.heap.objs.size + 1), H2, I3, rfl, qq⟩
    | next => exact False.elim hq
    | brk => exact False.elim hq
    | cont => exact False.elim hq
theorem pe_makeE {E : L2.St → XK} (M : Mk X.K C f) (F : FnOk X.prog X.w X.K X.mg X.base CX k f fd ps sp) (hr : Room (k + 1) X.A) (hg : Gl X x) (hm : X.mg x = some (.ref C)) (hb : Binds X.K fd ps []) (hx : ∀ σ, PassesAt CX X σ (E σ)) (ha : PA X (e :: es) t)
    (hdb : (x == ("__debug__" : Str)) = false := by decide +kernel) (he : starEach (e :: es) X.env = (false, eval e X.env) :: starEach es X.env := by rfl) (hpl : (backTo pos (starEach es X.env)).any (·.1) = false := by rfl) :
    PE X (.Call (.Name x p) (e :: es) [] pos) (tMakeE C sp E t) := by
  refine ⟨fun pins s σ H Q I h => ?_⟩
  refine wpAny_Call_Name_kw (ld_glob I hg hm ?_ hdb)
  exact PySem.W.callWith_K (h₀ := X.base) I.ok.mod.kin M.kp (thn (ha.run pos pins s σ H _ I h) fun us s1 ⟨vs, H1, I1, r, q⟩ => ⟨I1.kIn, run_makeS M F hr hb (hx σ) I1 r q⟩) he hpl
end
end TS
namespace TS
open PySem L2
section
variable {P : Program} {w : World} {K : PySem.W.Frag} {mg : Str → Option Value} {base : Heap}
/-- a def that may raise -/
def HasX (P : Program) (w : World) (K : PySem.W.Frag) (mg : Str → Option Value) (base : Heap) (name : Str) (k : Nat) (ps : List Str) (sp : Sp) : Prop :=
  ∃ (f : Addr) (fd : FuncData), mg name = some (.ref f) ∧ PySem.W.keepIn K (.ref f) = true ∧ Binds K fd ps [] ∧ FnOk P w K mg base (L2.CX P w) k f fd ps sp
/-- what makes no term -/
def NoTree (K : PySem.W.Frag) (C : Addr) (H : Hp) (x : V) : Prop := (∃ z : Str, x = .str z ∧ z.length ≤ 100000 ∧ treeOf z = none) ∨
  (∃ (tx : Value) (i b : Bool), TyX K H x tx ∧ PySem.W.kitOne K tx (.ref C) = some false ∧ PySem.W.kitOne K tx (.type "str") = some false ∧ PySem.W.kitOne K tx (.type "int") = some i ∧ PySem.W.kitOne K tx (.type "bool") = some b ∧
      (((i && !b) = true ∧ ∃ n : Int, x = .int n ∧ ¬ (0 ≤ n ∧ n ≤ 9)) ∨ (i && !b) = false))
def spNeedX (K : PySem.W.Frag) (C N : Addr) : Sp := fun vs H Q E => ∃ x : V, vs = [x] ∧
  ((∃ t : Tr, Makes C H x t ∧ t.fine ∧ t.deep ≤ 3 ∧ ∀ (H' : Hp) (v : V), Same H H' → TrAt H' v t → Q v H') ∨
   (NoTree K C H x ∧ ∀ H1 d, Same H H1 → H1 d = none → E (.ref N) (some d) (upd H1 d (.xd [("value", x)]))))
theorem ok_needX {C N f fx : Addr} {fd fdx : FuncData} (F : Fun K "_needed_tree" "_needed_tree" sNeed f fd) (T : BltT mg) (TK : TermK K mg C) (EN : ErrC P w K mg base "NoTerm" "value" N)
    (FX : Fun K "_tree_of" "_tree_of" sTreeOf fx fdx) (bx : Binds K fdx ["value"] []) (mx : mg "_tree_of" = some (.ref fx)) (GX : FnOk P w K mg base CX0 10 fx fdx ["value"] (spTreeOf K C)) : FnOk P w K mg base (L2.CX P w) 11 f fd ["value"] (spNeedX K C N) := by
  refine F.okX scNeed (fun vs H Q E h => ?_) (fun cdv A outer s H vs Q E hr h => ?_)
  · obtain ⟨x, rfl, _⟩ := h
    rfl
  obtain ⟨x, rfl, h⟩ := h
  refine ⟨_, pss_cons (ps_set (i := 1) scNeed.nd rfl (.inl rfl) (pe_call GX hr rfl mx FX.kp bx .nil pass0 (pa_cons (pv 0) pa_nil)))
    (pss_cons (ps_if (pt_cmpR op_isN (pv 1) pe_non (nomark _)) (pss_one (ps_raiseErr (W := fun cls d _ H => E cls d H) EN rfl (hr.mono (by decide)) (takes_of rfl rfl rfl rfl) rfl (pv 0))) pss_nil)
    (pss_one (ps_ret (pv 1)))), ?_⟩
  refine ⟨_, rfl, x, rfl, ?_⟩
  rcases h with ⟨t, hm, hf, hd, q⟩ | ⟨hb, q⟩
  · rcases hm with rfl | ⟨n, rfl, rfl⟩ | ⟨a, rfl, ha⟩
    · refine .inl ⟨t.text, rfl, Nat.le_trans (text315 hf hd) (by decide), ?_⟩
      rw [treeOf_text hf hd]
      intro H' v s h
      refine ⟨_, rfl, rfl, _, rfl, ?_⟩
      rw [ref_ne h]
      exact iteF ⟨_, rfl, q H' v s h⟩
    · refine .inr (.inr ⟨_, true, false, .base (.int n), TK.kInt, kit_ty (by decide +kernel), kit_ty (by decide +kernel), kit_ty (by decide +kernel), .inl ⟨rfl, n, rfl, ?_⟩⟩)
      rw [if_pos ⟨hf.1, hf.2⟩]
      exact ⟨_, rfl, rfl, _, rfl, iteF ⟨_, rfl, q H _ (Same.refl H) (.num n)⟩⟩
    · refine .inr (.inl ⟨a, t, rfl, ha, fun v h => ?_⟩)
      refine ⟨_, rfl, rfl, _, rfl, ?_⟩
      rw [ref_ne h]
      exact iteF ⟨_, rfl, q H v (Same.refl H) h⟩
  · have bad : ∀ H1, Same H H1 → ∀ d, H1 d = none → E (.ref N) (some d) (upd H1 d (.xd [("value", x)])) := fun H1 s1 d hd => q H1 d s1 hd
    rcases hb with ⟨z, rfl, hz, e⟩ | ⟨tx, i, b, h1, h2, h3, h4, h5, h6⟩
    · refine .inl ⟨z, rfl, hz, ?_⟩
      rw [e]
      intro H1 s1
      exact ⟨_, rfl, rfl, _, rfl, iteT ⟨_, rfl, bad H1 s1⟩⟩
    · refine .inr (.inr ⟨tx, i, b, h1, h2, h3, h4, h5, ?_⟩)
      rcases h6 with ⟨e, n, rfl, hn⟩ | e
      · refine .inl ⟨e, n, rfl, ?_⟩
        rw [if_neg hn]
        exact ⟨_, rfl, rfl, _, rfl, iteT ⟨_, rfl, bad H (Same.refl H)⟩⟩
      · exact .inr ⟨e, _, rfl, rfl, _, rfl, iteT ⟨_, rfl, bad H (Same.refl H)⟩⟩
/-! Term.__init__, also where it raises -/
def spTInitX (K : PySem.W.Frag) (C N : Addr) : Sp := fun vs H Q E => ∃ (p dx : Addr) (x : V), vs = [.ref p, x] ∧ H p = some (.ins C dx []) ∧
  ((∃ t : Tr, Makes C H x t ∧ t.fine ∧ t.deep ≤ 3 ∧ ∀ H', SameX p H H' → (∀ Ds, Lists Ds H → ∀ G, SameOff Ds H' G → TermAt C G p t) → Q .non H') ∨
   (NoTree K C H x ∧ ∀ H1 d, Same H H1 → H1 d = none → E (.ref N) (some d) (upd H1 d (.xd [("value", x)]))))
theorem ok_tinitX {C N f : Addr} {fd : FuncData} (F : Fun K "__init__" "Term.__init__" sTInit f fd) (T : BltT mg) (TK : TermK K mg C)
    (D1 : HasX P w K mg base "_needed_tree" 11 ["value"] (spNeedX K C N)) (D2 : Has P w K mg base "_text_of" 3 ["tree"] (spText 3)) (D3 : Has P w K mg base "_depth_of" 3 ["tree"] (spDepth 3)) (D4 : Has P w K mg base "_kind_of" 1 ["tree"] spKind)
    (D5 : Has P w K mg base "_leaves_of" 3 ["tree"] (spLeaves 3)) (D6 : Has P w K mg base "ascending" 1 ["values"] spAsc) : FnOk P w K mg base (L2.CX P w) 12 f fd ["self", "value"] (spTInitX K C N) := by
  obtain ⟨f1, fd1, m1, k1, b1, G1⟩ := D1
  obtain ⟨f2, fd2, m2, k2, b2, G2⟩ := D2
  obtain ⟨f3, fd3, m3, k3, b3, G3⟩ := D3
  obtain ⟨f4, fd4, m4, k4, b4, G4⟩ := D4
  obtain ⟨f5, fd5, m5, k5, b5, G5⟩ := D5
  obtain ⟨f6, fd6, m6, k6, b6, G6⟩ := D6
  refine F.okX scTInit (fun vs H Q E h => ?_) (fun cdv A outer s H vs Q E hr h => ?_)
  · obtain ⟨p, dx, x, rfl, _⟩ := h
    rfl
  obtain ⟨p, dx, x, rfl, hp, h⟩ := h
  have r3 : Room 3 _ := hr.mono (by decide)
  have r1 : Room 1 _ := hr.mono (by decide)
  refine ⟨_, pss_cons (ps_set (i := 2) scTInit.nd rfl (.inl rfl) (pe_callS (E := WE (fun cls d _ H => E cls d H)) G1 hr rfl m1 k1 b1 (fun σ => passAt (takes_of rfl rfl rfl rfl) σ) (pa_cons (pv 1) pa_nil)))
    (pss_cons (ps_fld (pv 0) (pv 2) rfl)
    (pss_cons (ps_fld (pv 0) (pe_call G2 r3 rfl m2 k2 b2 .nil pass0 (pa_cons (pv 2) pa_nil)) rfl)
    (pss_cons (ps_fld (pv 0) (pe_call G3 r3 rfl m3 k3 b3 .nil pass0 (pa_cons (pv 2) pa_nil)) rfl)
    (pss_cons (ps_fld (pv 0) (pe_call G4 r1 rfl m4 k4 b4 .nil pass0 (pa_cons (pv 2) pa_nil)) rfl)
    (pss_cons (ps_fld (pv 0) (pe_call G5 r3 rfl m5 k5 b5 .nil pass0 (pa_cons (pv 2) pa_nil)) rfl)
    (pss_cons (ps_fld (pv 0) (pe_call G6 r1 rfl m6 k6 b6 .nil pass0 (pa_cons
      (pe_lc (own := [("leaf", 3)]) (g := gName 3) (tt := tTest (tCB (rIsi K) (tCons (tVar 3) (tCons (tC (.ty "str")) tNil)))) (by rfl) scTInit.nd (pi_list (pe_fld (pv 0) rfl)) (blkOk_by (own := [("leaf", 3)]) (N := nmTInit) (sc := defScope sTInit) (by decide +kernel)) (fun _ _ _ _ _ => pg_name (i := 3) scTInit.nd rfl (Or.inl rfl))
        (fun _ _ _ _ _ => pts_one (pt_val (pe_callB call_isi (by rfl) T.isi bIsi (pa_cons (pv 3) (pa_cons (pe_bltn (by rfl) T.str (v := .ty "str") (by decide +kernel) rfl) pa_nil))))) (fun _ _ _ _ _ => pv 3)) pa_nil)) rfl)
    (pss_one (ps_fld (pv 0) (pe_call G6 r1 rfl m6 k6 b6 .nil pass0 (pa_cons
      (pe_lc (own := [("leaf", 3)]) (g := gName 3) (tt := tNot (tTest (tCB (rIsi K) (tCons (tVar 3) (tCons (tC (.ty "str")) tNil))))) (by rfl) scTInit.nd (pi_list (pe_fld (pv 0) rfl)) (blkOk_by (own := [("leaf", 3)]) (N := nmTInit) (sc := defScope sTInit) (by decide +kernel)) (fun _ _ _ _ _ => pg_name (i := 3) scTInit.nd rfl (Or.inl rfl))
        (fun _ _ _ _ _ => pts_one (pt_not (pt_val (pe_callB call_isi (by rfl) T.isi bIsi (pa_cons (pv 3) (pa_cons (pe_bltn (by rfl) T.str (v := .ty "str") (by decide +kernel) rfl) pa_nil)))))) (fun _ _ _ _ _ => pv 3)) pa_nil)) rfl)))))))), ?_⟩
  rcases h with ⟨t, hm, hf, hd, q⟩ | ⟨hb, q⟩
  case inr => exact ⟨_, rfl, x, rfl, .inr ⟨hb, q⟩⟩
  have l16 := leaves16 hd
  have lw := filt_words t
  have ln := filt_nums t
  have t315 := text315 hf hd
  refine ⟨_, rfl, x, rfl, .inl ⟨t, hm, hf, hd, fun H1 v s1 t1 => ?_⟩⟩
  have p1 := s1 _ _ hp
  -- self._tree
  refine ⟨_, rfl, _, rfl, p, C, dx, [], rfl, p1, TK.cl, TK.n1, (by show 0 < 1000; decide), ?_⟩
  generalize ez1 : putF "_tree" v [] = z1
  obtain ⟨x1, t2, p2⟩ := nxt z1 (SameX.refl p H |>.trans (Same.x s1)) t1 p1 (Same.refl H1)
  have c1 : z1.length ≤ 1 := by
    rw [← ez1]
    exact few (Nat.le_refl 0)
  generalize upd H1 p (.ins C dx z1) = A1 at x1 t2 p2
  -- self._text
  refine ⟨_, rfl, v, t, rfl, t2, hf.small, hd, by omega, fun H2 g2 => ?_⟩
  refine ⟨_, rfl, p, C, dx, z1, rfl, g2 _ _ p2, TK.cl, TK.n2, by omega, ?_⟩
  generalize ez2 : putF "_text" (.str t.text) z1 = z2
  obtain ⟨x2, t3, p3⟩ := nxt z2 x1 t2 p2 g2
  have c2 : z2.length ≤ 2 := by
    rw [← ez2]
    exact few c1
  generalize upd H2 p (.ins C dx z2) = A2 at x2 t3 p3
  -- self._depth
  refine ⟨_, rfl, v, t, rfl, t3, hd, fun H3 g3 => ?_⟩
  refine ⟨_, rfl, p, C, dx, z2, rfl, g3 _ _ p3, TK.cl, TK.n3, by omega, ?_⟩
  generalize ez3 : putF "_depth" (.int t.deep) z2 = z3
  obtain ⟨x3, t4, p4⟩ := nxt z3 x2 t3 p3 g3
  have c3 : z3.length ≤ 3 := by
    rw [← ez3]
    exact few c2
  generalize upd H3 p (.ins C dx z3) = A3 at x3 t4 p4
  -- self._kind
  refine ⟨_, rfl, v, t, rfl, t4, ?_⟩
  refine ⟨_, rfl, p, C, dx, z3, rfl, p4, TK.cl, TK.n4, by omega, ?_⟩
  generalize ez4 : putF "_kind" (.str t.kind) z3 = z4
  obtain ⟨x4, t5, p5⟩ := nxt z4 x3 t4 p4 (Same.refl A3)
  have c4 : z4.length ≤ 4 := by
    rw [← ez4]
    exact few c3
  generalize upd A3 p (.ins C dx z4) = A4 at x4 t5 p5
  -- self._leaves
  refine ⟨_, rfl, v, t, rfl, t5, hd, by omega, fun l H5 g5 nl hl => ?_⟩
  have lp : l ≠ p := (ne_of_none p5 nl).symm
  refine ⟨_, rfl, p, C, dx, z4, rfl, g5 _ _ p5, TK.cl, TK.n5, by omega, ?_⟩
  generalize ez5 : putF "_leaves" (.ref l) z4 = z5
  obtain ⟨x5, t6, p6⟩ := nxt z5 x4 t5 p5 g5
  have l6 := lst_upd (u := .ins C dx z5) hl lp
  have c5 : z5.length ≤ 5 := by
    rw [← ez5]
    exact few c4
  have k5 : z5.lookup ("_leaves" : Str) = some (.ref l) := by
    rw [← ez5, lookup_putF, if_pos rfl]
  generalize upd H5 p (.ins C dx z5) = A5 at x5 t6 p6 l6
  -- self._variables
  refine ⟨_, rfl, p, C, dx, _, _, rfl, p6, TK.cl, TK.n5, k5, l, rfl, ⟨_, SqL.of l6⟩, fun D hD => lc_filtL isS l6 (by omega) hD (fun _ => rfl) (fun _ => rfl) (fun i y H1 R hy sy r => ?_) (fun H6 g6 d6 => ?_)⟩
  · obtain ⟨u, ty, ky⟩ := isS_kit (K := K) (H := H1) (List.mem_of_getElem? hy)
    exact ⟨_, rfl, _, _, _, _, _, rfl, .ty "str", ty, ky, _, rfl, r⟩
  rw [leaves_words] at d6
  refine ⟨D, _, rfl, d6, by rw [List.length_map]; omega, .inl ⟨t.words, rfl, fun qv H7 ws g7 nq pw sw hq => ?_⟩⟩
  have g67 := g6.trans g7
  have qp : qv ≠ p := (ne_of_none (g6 _ _ p6) nq).symm
  refine ⟨_, rfl, p, C, dx, z5, rfl, g67 _ _ p6, TK.cl, TK.n6, by omega, ?_⟩
  generalize ez6 : putF "_variables" (.ref qv) z5 = z6
  obtain ⟨x6, t7, p7⟩ := nxt z6 x5 t6 p6 g67
  have l7 := lst_upd (u := .ins C dx z6) (g67 _ _ l6) lp
  have q7 := lst_upd (u := .ins C dx z6) hq qp
  have c6 : z6.length ≤ 6 := by
    rw [← ez6]
    exact few c5
  have k6 : z6.lookup ("_leaves" : Str) = some (.ref l) := by
    rw [← ez6, lookup_putF, if_neg (by decide +kernel)]
    exact k5
  generalize upd H7 p (.ins C dx z6) = A6 at x6 t7 p7 l7 q7
  -- self._constants
  refine ⟨_, rfl, p, C, dx, _, _, rfl, p7, TK.cl, TK.n5, k6, l, rfl, ⟨_, SqL.of l7⟩, fun D hD => lc_filtL (fun y => !isS y) l7 (by omega) hD (fun _ => rfl) (fun _ => rfl) (fun i y H1 R hy sy r => ?_) (fun H8 g8 d8 => ?_)⟩
  · obtain ⟨u, ty, ky⟩ := isS_kit (K := K) (H := H1) (List.mem_of_getElem? hy)
    exact ⟨_, rfl, _, _, _, _, _, rfl, .ty "str", ty, ky, _, rfl, r⟩
  rw [leaves_nums] at d8
  refine ⟨D, _, rfl, d8, by rw [List.length_map]; omega, .inr ⟨t.nums, rfl, fun rv H9 ns g9 nr pn sn hr9 => ?_⟩⟩
  have g89 := g8.trans g9
  have rp : rv ≠ p := (ne_of_none (g8 _ _ p7) nr).symm
  refine ⟨_, rfl, p, C, dx, z6, rfl, g89 _ _ p7, TK.cl, TK.n7, by omega, ?_⟩
  generalize ez7 : putF "_constants" (.ref rv) z6 = z7
  obtain ⟨x7, t8, p8⟩ := nxt z7 x6 t7 p7 g89
  have l8 := lst_upd (u := .ins C dx z7) (g89 _ _ l7) lp
  have q8 := lst_upd (u := .ins C dx z7) (g89 _ _ q7) qp
  have r8 := lst_upd (u := .ins C dx z7) hr9 rp
  have ez : z7 = tfs v t.text t.deep t.kind l qv rv := by
    rw [← ez7, ← ez6, ← ez5, ← ez4, ← ez3, ← ez2, ← ez1]
    rfl
  generalize upd H9 p (.ins C dx z7) = A7 at x7 t8 p8 l8 q8 r8
  rw [ez] at p8
  refine q A7 x7 fun Ds hDs G sG => ?_
  have out : ∀ {b : Addr} {o : HO}, A7 b = some o → (∀ xs, o ≠ .lst xs) → b ∉ Ds := fun {b o} hb no m => by
    obtain ⟨xs, e⟩ := hDs b m
    have nb : b ≠ p := ne_of e hp (by intro z; cases z)
    have := x7 b _ e nb
    rw [hb] at this
    exact no xs (Option.some.inj this)
  have lD : l ∉ Ds := fun m => by
    obtain ⟨xs, e⟩ := hDs l m
    have := x4 l _ e (ne_of e hp (by intro z; cases z))
    rw [nl] at this
    cases this
  have qD : qv ∉ Ds := fun m => by
    obtain ⟨xs, e⟩ := hDs qv m
    have := g6 _ _ (x5 qv _ e (ne_of e hp (by intro z; cases z)))
    rw [nq] at this
    cases this
  have rD : rv ∉ Ds := fun m => by
    obtain ⟨xs, e⟩ := hDs rv m
    have := g8 _ _ (x6 rv _ e (ne_of e hp (by intro z; cases z)))
    rw [nr] at this
    cases this
  have hDs7 : Lists Ds A7 := fun D m => by
    obtain ⟨xs, e⟩ := hDs D m
    exact ⟨xs, x7 D _ e (ne_of e hp (by intro z; cases z))⟩
  exact ⟨hf, hd, dx, v, l, qv, rv, ws, ns, sG _ _ p8 (out p8 (by intro xs z; cases z)), t8.off sG hDs7, sG _ _ l8 lD, sG _ _ q8 qD, sG _ _ r8 rD, pw, sw, pn, sn⟩
end
end TS
namespace TS
open PySem L2
abbrev sLRead : Stmt := top 35
section
variable {P : Program} {w : World} {K : PySem.W.Frag} {mg : Str → Option Value} {base : Heap}
theorem choice_no40 {p : Nat → Option (Tr × Nat)} {cs : List Nat} {i : Nat} (h : cs[i]? ≠ some 40) : choiceAt p cs i = none := by
  unfold choiceAt
  simp only [partsAt, if_neg h]
/-- a while that runs to the end of a word -/
theorem while_word {tc : TT} {tb : TS} {D : Ends} {cs : List Nat} {i : Nat} {H : Hp} (st : Nat → St) (hi : i ≤ cs.length)
    (ht : ∀ j, j ≤ cs.length → ∀ R : Bool → Hp → Prop, R (match cs[j]? with | some x => isLet x | none => false) H → tc (st j) H R)
    (hb : ∀ j, j < cs.length → ∀ D' : Ends, D'.nx (st (j + 1)) H → tb D' (st j) H) (hd : D.nx (st (wend cs i)) H) : tWhile tc tb D (st i) H := by
  refine ⟨fun m σ' H' => ∃ j : Nat, σ' = st j ∧ H = H' ∧ j ≤ cs.length ∧ m = cs.length - j ∧ wend cs j = wend cs i, ⟨cs.length - i, i, rfl, rfl, hi, rfl, rfl⟩, ?_⟩
  rintro m σ' H' ⟨j, rfl, rfl, hj, rfl, ew⟩
  refine ht j hj _ ?_
  cases hx : cs[j]? with
  | none =>
    have : wend cs j = j := wend_end (by simpa using hx)
    rw [← ew, this] at hd
    exact iteF hd
  | some x =>
    simp only
    cases hl : isLet x with
    | false =>
      have : wend cs j = j := wend_no hx hl
      rw [← ew, this] at hd
      exact iteF hd
    | true =>
      have hlt : j < cs.length := (List.getElem?_eq_some_iff.mp hx).1
      refine iteT ⟨fun σ' H' => σ' = st (j + 1) ∧ H = H', ?_, hb j hlt _ ⟨rfl, rfl⟩⟩
      rintro σ2 H2 ⟨rfl, rfl⟩
      exact ⟨cs.length - (j + 1), by omega, j + 1, rfl, rfl, hlt, rfl, by rw [← wend_let hx hl]; exact ew⟩
abbrev nmLRead : List Str := ["text", "spot", "last", "parts", "sign", "found"]
theorem scLRead : FnScope nmLRead ["text", "spot"] (defScope sLRead) := ⟨rfl, rfl, rfl, by decide +kernel, rfl, by decide +kernel, by decide +kernel⟩
def spRead (n : Nat) : Sp := fun vs H Q _ => ∃ (z : Str) (i : Nat), vs = [.str z, .int i] ∧ z.length ≤ 100000 ∧ i ≤ z.length ∧ z.length < i + n ∧ TreeRes H (treeAt z n i) Q
theorem none_read {f : Addr} {fd : FuncData} {k : Nat} : FnOk P w K mg base CX0 k f fd ["text", "spot"] (spRead 0) := by
  have no : ∀ vs H Q E, ¬ spRead 0 vs H Q E := fun vs H Q E h => by
    obtain ⟨z, i, _, _, hi, hr, _⟩ := h
    omega
  exact ⟨fun vs H Q E h => absurd h (no vs H Q E), fun A outer s H args us vs Q E _ _ _ _ h => absurd h (no vs H Q E)⟩
theorem ok_read {n : Nat} {f : Addr} {fd : FuncData} (F : Fun K "_law_read" "_law_read" sLRead f fd) (T : BltT mg) (b : Binds K fd ["text", "spot"] []) (m : mg "_law_read" = some (.ref f)) (G : FnOk P w K mg base CX0 n f fd ["text", "spot"] (spRead n)) :
    FnOk P w K mg base CX0 (n + 1) f fd ["text", "spot"] (spRead (n + 1)) := by
  refine F.ok scLRead (fun vs H Q E h => ?_) (fun cdv A outer s H vs Q E hr h => ?_)
  · obtain ⟨z, i, rfl, _⟩ := h
    rfl
  obtain ⟨z, i, rfl, hz, hi, hn, q⟩ := h
  refine ⟨_, pss_cons (ps_if (pt_cmpR op_ge (pv 1) (pe_callB call_len_str (by rfl) T.len PySem.boot_len (pa_cons (pv 0) pa_nil)) (nomark _)) (pss_one (ps_ret pe_non)) pss_nil)
    (pss_cons (ps_if (pt_cmpR op_in_sign (pe_ix ix_str (pv 0) (pv 1) (fun _ _ => rfl)) pe_str rfl)
      (pss_one (ps_ret (pe_tup (pa_cons (pe_callTy call_int_str (by rfl) T.int (by decide +kernel) (pa_cons (pe_ix ix_str (pv 0) (pv 1) (fun _ _ => rfl)) pa_nil)) (pa_cons (pe_op op_add (pv 1) pe_int) pa_nil))))) pss_nil)
    (pss_cons (ps_set (i := 2) scLRead.nd rfl (.inl rfl) (pv 1))
    (pss_cons (ps_while PassesOwn.never (PW.pt (pw_and (pt_cmpR op_lt (pv 2) (pe_callB call_len_str (by rfl) T.len PySem.boot_len (pa_cons (pv 0) pa_nil)) (nomark _))
        (pw_and1 (pt_cmpR op_in_sign (pe_ix ix_str (pv 0) (pv 2) (fun _ _ => rfl)) pe_str rfl)))) (pss_one (ps_set (i := 2) scLRead.nd rfl (.inl rfl) (pe_op op_add (pv 2) pe_int))))
    (pss_cons (ps_if (pt_cmpR op_gt (pv 2) (pv 1) (nomark _)) (pss_one (ps_ret (pe_ifExp (pt_cmpR op_le (pe_op op_sub (pv 2) (pv 1)) pe_int (nomark _)) (pe_tup (pa_cons (pe_slice sl_str (pv 0) (po_some (pv 1)) (po_some (pv 2))) (pa_cons (pv 2) pa_nil))) pe_non))) pss_nil)
    (pss_cons (ps_set (i := 3) scLRead.nd rfl (.inl rfl) (pe_lst pa_nil))
    (pss_cons (ps_for PassesOwn.never rfl (pi_str pe_str) (pg_name (i := 4) scLRead.nd rfl (.inl rfl))
      (pss_cons (ps_if (PW.pt (pw_or (pt_cmpR op_ge (pv 1) (pe_callB call_len_str (by rfl) T.len PySem.boot_len (pa_cons (pv 0) pa_nil)) (nomark _)) (pw_or1 (pt_cmpR op_ne (pe_ix ix_str (pv 0) (pv 1) (fun _ _ => rfl)) (pv 4) (nomark _))))) (pss_one (ps_ret pe_non)) pss_nil)
      (pss_cons (ps_set (i := 5) scLRead.nd rfl (.inl rfl) (pe_call G hr rfl m F.kp b .nil pass0 (pa_cons (pv 0) (pa_cons (pe_op op_add (pv 1) pe_int) pa_nil))))
      (pss_cons (ps_if (pt_cmpR op_isN (pv 5) pe_non (nomark _)) (pss_one (ps_ret pe_non)) pss_nil)
      (pss_cons (ps_expr (pe_bm PySem.F.plainAttrs_list PySem.F.slot_list_append PySem.F.type_list_append mt_append (pv 3) (pa_cons (pe_ix ix_tup (pv 5) pe_int (fun _ _ => rfl)) pa_nil)))
      (pss_one (ps_set (i := 1) scLRead.nd rfl (.inl rfl) (pe_ix ix_tup (pv 5) pe_int (fun _ _ => rfl)))))))))
    (pss_one (ps_ret (pe_ifExp (pt_cmpR op_eq (pe_slice sl_str (pv 0) (po_some (pv 1)) (po_some (pe_op op_add (pv 1) pe_int))) pe_str (nomark _))
      (pe_tup (pa_cons (pe_callTy call_tuple_of (by rfl) T.tup (by decide +kernel) (pa_cons (pv 3) pa_nil)) (pa_cons (pe_op op_add (pv 1) pe_int) pa_nil))) pe_non))))))))), ?_⟩
  have zc : z.cps.toList.length = z.length := len_codes z
  have big : z.length ≤ sizeLine := Nat.le_trans hz (by decide)
  refine ⟨_, rfl, _, rfl, z, rfl, big, _, _, rfl, rfl, _, rfl, ?_⟩
  by_cases hlt : i < z.length
  case neg =>
    rw [show decide ((i : Int) ≥ (z.length : Int)) = true from decide_eq_true (by omega)]
    refine iteT ?_
    rw [treeAt_none (by omega)] at q
    exact q H (Same.refl H)
  rw [show decide ((i : Int) ≥ (z.length : Int)) = false from decide_eq_false (by omega)]
  refine iteF ?_
  obtain ⟨x, hx⟩ : ∃ x, z.cps.toList[i]? = some x := ⟨_, List.getElem?_eq_getElem (by omega)⟩
  unfold treeAt at q
  rw [hx] at q
  simp only at q
  have ix : ∀ {R : V → Hp → Prop}, R (.str ⟨#[x]⟩) H → (∃ v, some (some (V.str z)) = some (some v) ∧ ∃ v_1, some (some (V.int (i : Int))) = some (some v_1) ∧ rIxS v v_1 H R) := fun h => ⟨_, rfl, _, rfl, z, _, x, rfl, rfl, big, atI_nat hx, h⟩
  refine ix ⟨x, _, rfl, rfl, _, rfl, ?_⟩
  refine ite2 (fun c1 => ?_) (fun c1 => ?_)
  · have c1 : isDig x = true := c1
    have c40 : ¬ x = 40 := fun e => by
      subst e
      cases c1
    rw [if_neg c40, if_pos c1] at q
    refine ix ⟨_, _, rfl, int_digit c1, by show 1 ≤ 640; decide, _, rfl, _, _, rfl, rfl, by show 2 ≤ sizeLine; decide, fun p hp => ?_⟩
    exact q _ p _ (same_upd hp _) hp upd_same (.num _)
  have c1 : ¬ isDig x = true := c1
  -- last
  refine ⟨_, rfl, while_word (cs := z.cps.toList) (i := i) (fun j => [some (.str z), some (.int i), some (.int j), none, none, none]) (by omega) (fun j hj R hR => ?_) (fun j hj D' hD => ?_) ?_⟩
  · refine ⟨_, rfl, _, rfl, z, rfl, big, _, _, rfl, rfl, _, rfl, ?_⟩
    refine ite2 (fun c => ?_) (fun c => ?_)
    · have hlj : j < z.length := by
        have := of_decide_eq_true c
        omega
      obtain ⟨y, hy⟩ : ∃ y, z.cps.toList[j]? = some y := ⟨_, List.getElem?_eq_getElem (by omega)⟩
      rw [hy] at hR
      exact ⟨_, rfl, _, rfl, z, _, y, rfl, rfl, big, atI_nat hy, y, _, rfl, rfl, _, rfl, hR⟩
    · have hge : z.length ≤ j := by
        have : ¬ ((j : Int) < (z.length : Int)) := fun h => c (decide_eq_true h)
        omega
      rw [List.getElem?_eq_none (by omega)] at hR
      exact hR
  · exact ⟨_, rfl, _, _, rfl, rfl, hD⟩
  have g1 := wend_ge z.cps.toList i
  have g2 := wend_le z.cps.toList i (by omega)
  refine ⟨_, rfl, _, rfl, _, _, rfl, rfl, _, rfl, ?_⟩
  by_cases hw : i < wend z.cps.toList i
  · rw [show decide ((i : Int) < (wend z.cps.toList i : Int)) = true from decide_eq_true (by omega)]
    have hl : isLet x = true := by
      cases e : isLet x with
      | true => rfl
      | false =>
        have := wend_no hx e
        omega
    have c40 : ¬ x = 40 := fun e => by
      subst e
      have := isLet_iff.mp hl
      omega
    rw [if_neg c40, if_neg c1] at q
    generalize wend z.cps.toList i = e at q g1 g2 hw
    refine iteT ⟨_, rfl, _, rfl, _, _, rfl, rfl, _, _, rfl, rfl, _, rfl, ?_⟩
    by_cases c2 : e - i ≤ 8
    · rw [if_pos ⟨by omega, c2⟩] at q
      rw [show decide ((e : Int) - (i : Int) ≤ 8) = true from decide_eq_true (by omega)]
      refine iteT ⟨_, rfl, _, rfl, _, rfl, _, rfl, _, rfl, z, rfl, big, _, rfl, by show 2 ≤ sizeLine; decide, fun p hp => ?_⟩
      exact q _ p _ (same_upd hp _) hp upd_same (.wd _)
    · rw [if_neg (fun h => c2 h.2)] at q
      rw [show decide ((e : Int) - (i : Int) ≤ 8) = false from decide_eq_false (by omega)]
      exact iteF (q H (Same.refl H))
  have ew : wend z.cps.toList i = i := by omega
  rw [show decide ((i : Int) < (wend z.cps.toList i : Int)) = false from decide_eq_false (by omega)]
  have q' : TreeRes H (choiceAt (treeAt z n) z.cps.toList i) Q := by
    by_cases c40 : x = 40
    · rw [if_pos c40] at q
      exact q
    · rw [if_neg c40, if_neg c1, if_neg (by omega)] at q
      rw [choice_no40 (by rw [hx]; intro e; exact c40 (Option.some.inj e))]
      exact q
  clear q
  refine iteF ⟨by show 0 ≤ sizeLine; decide, fun l hl => ?_⟩
  refine ⟨_, rfl, for_strI (fun k σ' H1 => ∃ (j : Nat) (done : List Tr) (vs : List V) (s2 s4 s5 : Option V), σ' = [some (.str z), some (.int j), s2, some (.ref l), s4, s5] ∧ Same H H1 ∧ H1 l = some (.lst vs) ∧ TrsAt H1 vs done ∧ done.length = k ∧ i ≤ j ∧
      partsAt (treeAt z n) z.cps.toList [40, 61, 63, 58] i = (partsAt (treeAt z n) z.cps.toList ([40, 61, 63, 58].drop k) j).map fun x => (done ++ x.1, x.2)) ?_ ?_ ?_⟩
  · refine ⟨i, [], [], _, none, none, rfl, same_upd hl _, upd_same, TrsAt.nil, rfl, Nat.le_refl _, ?_⟩
    simp only [List.drop_zero, List.nil_append]
    cases partsAt (treeAt z n) z.cps.toList [40, 61, 63, 58] i with
    | none => rfl
    | some x => rfl
  · rintro k c σ' H1 hc ⟨j, done, vs, s2, s4, s5, rfl, s1, l1, tr, hk, hij, ep⟩
    rw [sign_codes] at hc
    have hk4 : k < 4 := (List.getElem?_eq_some_iff.mp hc).1
    have hdr : [40, 61, 63, 58].drop k = c :: [40, 61, 63, 58].drop (k + 1) := by
      rw [List.drop_eq_getElem_cons (by exact hk4)]
      have := (List.getElem?_eq_some_iff.mp hc).2
      rw [this]
    generalize e0 : partsAt (treeAt z n) z.cps.toList [40, 61, 63, 58] i = L at ep
    rw [hdr] at ep
    unfold partsAt at ep
    have non : choiceAt (treeAt z n) z.cps.toList i = none → ∀ H', Same H H' → Q .non H' := fun e => by
      rw [e] at q'
      exact q'
    have noch : L = none → choiceAt (treeAt z n) z.cps.toList i = none := fun e => by
      unfold choiceAt
      rw [e0, e]
    refine ⟨_, rfl, _, rfl, z, rfl, big, _, _, rfl, rfl, _, rfl, ?_⟩
    by_cases hj : j < z.length
    case neg =>
      rw [show decide ((j : Int) ≥ (z.length : Int)) = true from decide_eq_true (by omega)]
      rw [if_neg (by rw [List.getElem?_eq_none (by omega)]; intro e; cases e)] at ep
      exact iteT (iteT (non (noch (by rw [ep]; rfl)) H1 s1))
    rw [show decide ((j : Int) ≥ (z.length : Int)) = false from decide_eq_false (by omega)]
    obtain ⟨y, hy⟩ : ∃ y, z.cps.toList[j]? = some y := ⟨_, List.getElem?_eq_getElem (by omega)⟩
    refine iteF ⟨_, rfl, _, rfl, z, _, y, rfl, rfl, big, atI_nat hy, _, rfl, rfl, _, rfl, ?_⟩
    rw [sign_eq (y := ⟨#[c]⟩) (d := c) rfl]
    by_cases cc : y = c
    case neg =>
      rw [decide_eq_false cc]
      rw [if_neg (by rw [hy]; intro e; exact cc (Option.some.inj e))] at ep
      exact iteT (non (noch (by rw [ep]; rfl)) H1 s1)
    rw [decide_eq_true cc]
    rw [if_pos (by rw [hy, cc])] at ep
    refine iteF ⟨_, rfl, _, rfl, _, _, rfl, rfl, z, j + 1, rfl, hz, hj, by omega, ?_⟩
    cases et : treeAt z n (j + 1) with
    | none =>
      rw [et] at ep
      intro H2 g2
      exact ⟨_, rfl, rfl, _, rfl, iteT (non (noch (by rw [ep]; rfl)) H2 (s1.trans g2))⟩
    | some te =>
      obtain ⟨t, e⟩ := te
      rw [et] at ep
      intro H2 p v g2 np hp ht
      refine ⟨_, rfl, rfl, _, rfl, ?_⟩
      rw [isNon_dec rfl]
      refine iteF ?_
      have lp : ∀ {b o}, H b = some o → b ≠ l := fun {b o} h => ne_of_none h hl
      have pl : p ≠ l := fun e => by
        rw [e] at np
        rw [np] at l1
        cases l1
      refine ⟨_, rfl, .inl ⟨rfl, _, SqL.of (g2 _ _ l1)⟩, _, rfl, p, _, _, _, rfl, rfl, SqT.of hp, atI_nat (j := 0) rfl, l, vs, v, rfl, rfl, g2 _ _ l1, ?_, ?_⟩
      · have := tr.1
        exact small1000 (by omega)
      refine ⟨_, rfl, p, _, _, _, rfl, rfl, SqT.of (by rw [upd_ne pl]; exact hp), atI_nat (j := 1) rfl, ?_⟩
      refine ⟨e, done ++ [t], vs ++ [v], _, _, _, rfl, fun b o h => ?_, upd_same, ?_, by simp [hk], ?_, ?_⟩
      · rw [upd_ne (lp h)]
        exact g2 _ _ (s1 _ _ h)
      · have h2 := (tr.same g2).snoc ht
        refine ⟨h2.1, fun i' v' t' a b => ?_⟩
        have h3 := h2.2 i' v' t' a b
        exact trAt_upd h3 (g2 _ _ l1)
      · have o := congrArg List.length (treeAt_out z n (j + 1) t e et).1
        rw [List.length_append, List.length_drop, List.length_drop] at o
        omega
      · rw [ep]
        show Option.map (fun x => (done ++ x.fst, x.snd)) (match partsAt (treeAt z n) z.cps.toList ([40, 61, 63, 58].drop (k + 1)) e with | none => none | some (ts, e') => some (t :: ts, e')) = _
        cases partsAt (treeAt z n) z.cps.toList ([40, 61, 63, 58].drop (k + 1)) e with
        | none => rfl
        | some x => simp
  · rintro σ' H1 ⟨j, done, vs, s2, s4, s5, rfl, s1, l1, tr, hk, hij, ep⟩
    have h4 : done.length = 4 := by
      rw [hk, sign_codes]
      rfl
    have ed : [40, 61, 63, 58].drop ("(=?:" : Str).cps.toList.length = ([] : List Nat) := by
      rw [sign_codes]
      rfl
    rw [ed] at ep
    have e0 : partsAt (treeAt z n) z.cps.toList [] j = some ([], j) := rfl
    rw [e0] at ep
    simp only [Option.map_some, List.append_nil] at ep
    match done, h4 with
    | [a, b, c, d], _ =>
      obtain ⟨u, v, y, x, rfl, ta, tb, tc, td⟩ := tr.four
      unfold choiceAt at q'
      rw [ep] at q'
      simp only at q'
      refine ⟨_, rfl, _, rfl, _, rfl, _, rfl, _, _, rfl, rfl, _, rfl, z, rfl, big, rfl, _, rfl, ?_⟩
      rw [cut1_dec (d := 41) (by decide +kernel)]
      by_cases hc : z.cps.toList[j]? = some 41
      · rw [if_pos hc] at q'
        rw [decide_eq_true hc]
        refine iteT ?_
        refine ⟨_, rfl, l, _, rfl, .inl ⟨SqL.of l1, fun p hp => ?_⟩⟩
        refine ⟨_, rfl, _, _, rfl, rfl, by show 2 ≤ sizeLine; decide, fun p2 hp2 => ?_⟩
        have g1 : Same H1 (upd H1 p (.tup [u, v, y, x])) := same_upd hp _
        have g2 : Same H1 (upd (upd H1 p (.tup [u, v, y, x])) p2 (.tup [.ref p, .int ((j : Int) + 1)])) := g1.trans (same_upd hp2 _)
        have n1 : p ≠ p2 := ne_of_none upd_same hp2
        refine q' _ p2 (.ref p) (s1.trans g2) (s1.free (g1.free hp2)) upd_same (.ch (by rw [upd_ne n1, upd_same]) (ta.same g2) (tb.same g2) (tc.same g2) (td.same g2))
      · rw [if_neg hc] at q'
        rw [decide_eq_false hc]
        exact iteF (q' H1 s1)
end
end TS
namespace TS
open PySem PySem.Spec PyProof.Rows PySem.W PySem.Calls L2
section
variable {X : Cx} {e : Expr} {te : TE} {p pos kpos : Pos} {x arg fld : Str} {C fI : Addr} {k : Nat} {fd : FuncData} {B newId initId : String} {bmB : List Value}
/-- the call of the class, by keyword -/
theorem run_errK {nm qn : Str} {N : Addr} {bs bm sub : List Value} {sn : List Str} {ab : Bool} {col : Option Bool} {dd : Option Addr} {k0 k1 k2 k3 k5 : Option Value} {pins : List (Addr × Obj)} {σ : L2.St} {H1 : Hp} {Q : VK} {s1 : Shared} {v : V} {u : Value}
    (T : ErrK X.K C B newId initId bmB) (hC : X.K.lookup C = some (excClassObj nm qn C N bs bm true sn sub ab col dd k0 k1 k2 k3 k5 newId)) (hbm : excTail bmB bm = true)
    (iC : findIn X.K (.ref C) "__init__" = some (some (.ref fI))) (tI : typeIn X.K (.ref fI) = some (.type "function"))
    (F1 : FnOk X.prog X.w X.K X.mg X.base CX0 k fI fd ["self", arg] (spIni C fld)) (hr : Room (k + 1) X.A) (I1 : Inv X pins σ H1 s1) (rv : RelV v u)
    (hb : ∀ (s2 : Shared) (o : Addr), BindsTo s2 fd ⟨[Value.ref o], [(arg, u)]⟩ ((["self", arg] : List Str).zip [Value.ref o, u]))
    (q : ∀ a, H1 a = none → ∀ dx, H1 dx = none → dx ≠ a → Q (.ref a) (errH H1 a dx C fld v)) :
    wpAny (model X.prog X.w) X.A (call (.ref C) [] [(arg, u)]) (EP X pins σ Q) X.xe s1 := by
  obtain ⟨Bn, iN, bmN, NF, hB⟩ := T.NF
  have hT : bm.contains (.type Bn) = true ∧ bm.contains (.type "AttributeError") = false ∧ bm.contains (.type "NameError") = false :=
    ⟨(excTail_contains _ bm hbm).trans hB, (excTail_contains _ bm hbm).trans T.noA, (excTail_contains _ bm hbm).trans T.noN⟩
  obtain ⟨hp, g, dr, tk, os⟩ := s1
  have hsz : hp.objs.size ≤ hp.objs.size + 1 := Nat.le_succ _
  have hn : H1 (hp.objs.size + 1) = none := I1.hok.fresh hsz
  have kk : ∀ b o, hp.get? b = some o → ((hp.push (kdv_tup [])).push (PySem.HandSPX.excO C hp.objs.size)).get? b = some o :=
    fun b o z => Heap.get?_push_of_some _ (Heap.get?_push_of_some _ z)
  have hget : ((hp.push (kdv_tup [])).push (PySem.HandSPX.excO C hp.objs.size)).get? (hp.objs.size + 1) = some (PySem.HandSPX.excO C hp.objs.size) := by heap_get
  have I2 : Inv X pins σ (upd H1 (hp.objs.size + 1) (exo (hp.objs.size + 1) C none)) ⟨(hp.push (kdv_tup [])).push (PySem.HandSPX.excO C hp.objs.size), g, dr, tk, os⟩ :=
    I1.laid (t' := tk) (a := hp.objs.size + 1) (o := exo (hp.objs.size + 1) C none) (h' := (hp.push (kdv_tup [])).push (PySem.HandSPX.excO C hp.objs.size)) kk hsz (exo_ok hget)
  refine wpAny_call (callK NF hT (I1.kIn _ _ hC) (looks_findIn I1.kIn iC) (fun self => bind_fn I1.kIn self tI) (by show 0 ≤ sizeLine; decide)
    (codeAny_mono (F1.run _ X.stack _ _ ⟨[Value.ref (hp.objs.size + 1)], [(arg, u)]⟩ [Value.ref (hp.objs.size + 1), u] [.ref (hp.objs.size + 1), v] (fun y H2 => y = .non ∧ Q (.ref (hp.objs.size + 1)) H2) (fun _ _ _ => False)
      (hr.make C [] [(arg, u)]) (I2.env0.make C [] [(arg, u)]) (hb _ _) (.cons rfl (.cons rv .nil)) ⟨_, v, rfl, upd_same, fun dx hd ne => ⟨rfl, ?_⟩⟩) fun r s' hq' => ?_))
  · rw [errH_of ne]
    exact q _ hn dx (by rw [upd_ne ne] at hd; exact hd) ne
  · cases r with
    | error er => exact hq'.elim
    | ok fl =>
      cases fl with
      | ret u' =>
        obtain ⟨y, H2, J, ry, ey, q2⟩ := I2.after hq'
        subst ey
        exact ⟨ry, .ref _, H2, J, rfl, q2⟩
      | next => exact False.elim hq'
      | brk => exact False.elim hq'
      | cont => exact False.elim hq'
theorem pe_errK (T : ErrK X.K C B newId initId bmB) (iC : findIn X.K (.ref C) "__init__" = some (some (.ref fI))) (tI : typeIn X.K (.ref fI) = some (.type "function"))
    (F1 : FnOk X.prog X.w X.K X.mg X.base CX0 k fI fd ["self", arg] (spIni C fld)) (hr : Room (k + 1) X.A)
    (hb : ∀ (s2 : Shared) (o : Addr) (u : Value), BindsTo s2 fd ⟨[Value.ref o], [(arg, u)]⟩ ((["self", arg] : List Str).zip [Value.ref o, u]))
    (hg : Gl X x) (hm : X.mg x = some (.ref C)) (he : PE X e te) (hdb : (x == ("__debug__" : Str)) = false := by decide) :
    PE X (.Call (.Name x p) [] [⟨some arg, e, kpos⟩] pos) (tErr C fld te) := by
  refine ⟨fun pins s σ H Q I h => ?_⟩
  obtain ⟨nm, qn, N, bs, bm, sn, sub, ab, col, dd, k0, k1, k2, k3, k5, hC, hbm⟩ := T.cls
  refine wpAny_Call_Name_kw (ld_glob I hg hm ?_ hdb)
  have hA : PK X [⟨some arg, e, kpos⟩] (tCons te tNil) := pk_cons he pk_nil
  refine callWith_KW0 (h₀ := X.base) I.ok.mod.kin T.kC rfl ?_ rfl
  refine thn (hA.run pos pins s σ H (fun vs H1 => match vs with
    | [v] => ∀ a dx, H1 a = none → H1 dx = none → dx ≠ a → Q (.ref a) (errH H1 a dx C fld v)
    | _ => False) I h) fun us s1 ⟨vs, H1, I1, r1, q1⟩ => ⟨I1.kIn, ?_⟩
  obtain ⟨v, u, rfl, rfl, rv⟩ : ∃ v u, vs = [v] ∧ us = [u] ∧ RelV v u := by
    cases r1 with
    | nil => exact q1.elim
    | cons ra rr =>
      cases rr with
      | nil => exact ⟨_, _, rfl, rfl, ra⟩
      | cons _ _ => exact q1.elim
  exact run_errK T hC hbm iC tI F1 hr I1 rv (fun s2 o => hb s2 o u) (fun a hn dx hd ne => q1 a dx hn hd ne)
/-- e.f of an error that was made here -/
def tErrF (K : Frag) (f : Str) (te : TE) : TE := fun σ H Q => te σ H fun y H1 => ∃ (a dx C : Addr) (fs : List (Str × V)) (v : V), y = .ref a ∧ H1 a = some (exo a C (some dx)) ∧ H1 dx = some (exd dx fs) ∧
  fs.lookup f = some v ∧ XfC K C ∧ findIn K (.ref C) f = some none ∧ Q v H1
theorem err_inst {pins : List (Addr × Obj)} {σ : L2.St} {H1 : Hp} {s1 : Shared} {a dx : Addr} {fs : List (Str × V)} (I1 : Inv X pins σ H1 s1) (ea : H1 a = some (exo a C (some dx))) (ed : H1 dx = some (exd dx fs)) :
    ∃ (ox od : Obj) (mA : Str → Option Value), InstAt s1.heap a ox C (some od) ∧ (∀ f, RelO (fs.lookup f) (mA f)) ∧ ∀ n, lookIn n od = some (mA n) := by
  obtain ⟨t1, ho⟩ := exo_at I1.hok ea
  obtain ⟨mA, hns, rel⟩ := exd_at I1.hok ed
  obtain ⟨od, hod, hl⟩ := lookIn_ns hns
  exact ⟨_, od, mA, ⟨ho, rfl, rfl, hod⟩, rel, hl⟩
theorem pe_errF {f : Str} (he : PE X e te) (hb : attributeBase e f X.env (eval e X.env) = eval e X.env := by rfl) : PE X (.Attribute e f pos) (tErrF X.K f te) := by
  refine ⟨fun pins s σ H Q I h => ?_⟩
  refine attr_of hb (thn (he.run pins s σ H _ I h) fun u s1 hh => ?_)
  obtain ⟨y, H1, I1, ry, a, dx, C, fs, v, ey, ea, ed, l, T, hno, q⟩ := hh
  subst ey
  obtain rfl : u = Value.ref a := ry
  obtain ⟨ox, od, mA, J, rel, hl⟩ := err_inst I1 ea ed
  obtain ⟨u, hu, ru⟩ := RelO.some_of (v := v) (o := mA f) (by rw [← l]; exact rel f)
  exact PySem.HandSPX.exc_get I1.kIn J T.ga T.gg T.exC (findObj_own T.hdC hno rfl (by rw [hl, hu])) (handed_of ru) ⟨v, H1, I1.tok _, ru, q⟩
/-- what isinstance asks of an own error's class -/
structure IsX (K : Frag) (C : Addr) : Prop where
  x : XfC K C
  hcl : (clsIn K C).isSome = true
  ha : findIn K (.ref C) "__class__" = some (some (.builtin "object.__class__"))
  hn : specialIn K (.builtin "object.__class__") "__get__" = some (some (.builtin "getset_descriptor.__get__"))
  htk : takesIn K (.builtin "object.__class__") = some true
  hm : mroIn K C (.type "object") = some true
/-- isinstance(e, c) of an error that was made here -/
def rIsX (K : Frag) : List V → Hp → VK → Prop := fun xs H Q => ∃ (a dx C : Addr) (fs : List (Str × V)) (c : V) (cv : Value) (b : Bool), xs = [.ref a, c] ∧ H a = some (exo a C (some dx)) ∧ H dx = some (exd dx fs) ∧
  IsX K C ∧ ClsV c cv ∧ kitOne K (.ref C) cv = some b ∧ Q (.bl b) H
theorem call_isX : CallR X (.builtin "isinstance") (rIsX X.K) := by
  intro pins s σ H xs us Q I r h
  obtain ⟨a, dx, C, fs, c, cv, b, rfl, ea, ed, T, kc, ek, q⟩ := h
  obtain ⟨u1, u2, rfl, r1, r2⟩ := vals2 r
  have e2 := kc.eq r2
  subst e2
  obtain rfl : u1 = Value.ref a := r1
  obtain ⟨ox, od, mA, J, _, _⟩ := err_inst I ea ed
  exact kia_one (kitx_exc T.hcl T.x.ga T.x.gg T.x.exC T.ha T.hn T.htk T.hm) I.kIn J ek (fun z => nomatch z) fun tk => ⟨.bl b, H, I.tok tk, rfl, q⟩
/-- isinstance(e, (c, ..)) of an error that was made here, the tuple just laid -/
def rIsXT (K : Frag) : List V → Hp → VK → Prop := fun xs H Q => ∃ (a dx C tp : Addr) (fs : List (Str × V)) (cs : List V) (cvs : List Value) (b : Bool), xs = [.ref a, .ref tp] ∧ H a = some (exo a C (some dx)) ∧ H dx = some (exd dx fs) ∧
  IsX K C ∧ H tp = some (.tup cs) ∧ Paired ClsV cs cvs ∧ kitAny K (.ref C) cvs = some b ∧ Q (.bl b) H
theorem call_isXT : CallR X (.builtin "isinstance") (rIsXT X.K) := by
  intro pins s σ H xs us Q I r h
  obtain ⟨a, dx, C, tp, fs, cs, cvs, b, rfl, ea, ed, T, hT, kc, ek, q⟩ := h
  obtain ⟨u1, u2, rfl, r1, r2⟩ := vals2 r
  obtain rfl : u2 = Value.ref tp := r2
  obtain rfl : u1 = Value.ref a := r1
  obtain ⟨ox, od, mA, J, _, _⟩ := err_inst I ea ed
  obtain ⟨_, its, rv, o, h1, h2, n, h3⟩ := (show ObjOk X.prog X.w H s.heap tp (.tup cs) from I.hok tp _ hT)
  have e3 := ClsV.all kc rv
  subst e3
  obtain ⟨oc, od', dt, sl⟩ := o
  simp only at h2 h3
  subst h2 h3
  exact kia_tup (kitx_exc T.hcl T.x.ga T.x.gg T.x.exC T.ha T.hn T.htk T.hm) I.kIn J h1 ek (fun z => nomatch z) fun tk => ⟨.bl b, H, I.tok tk, rfl, q⟩
/-- repr of a list or a tuple of data, where nothing is being shown -/
def rRepr (K : Frag) : List V → Hp → VK → Prop := fun xs H Q => ∃ (a : Addr) (dt : PyData), xs = [.ref a] ∧ Dp K H (.ref a) dt ∧ dt.showable = true ∧ dt.hasDict = false ∧ dt.depth ≤ 20 ∧ dt.shown.length ≤ sizeLine ∧ Q (.str dt.shown) H
theorem call_reprD {j : Nat} (hg : X.A.guards = some []) (hr : Room j X.A) : CallR X (.builtin "repr") (rRepr X.K) := by
  intro pins s σ H xs us Q I r h
  obtain ⟨a, dt, rfl, hd, hs, hn, hdp, hz, q⟩ := h
  obtain ⟨u1, rfl, r1⟩ : ∃ u1, us = [u1] ∧ RelV (.ref a) u1 := by
    cases r with
    | cons ra rr =>
      cases rr
      exact ⟨_, rfl, ra⟩
  obtain rfl : u1 = Value.ref a := r1
  obtain ⟨as, rd⟩ := Dp.reads I dt _ _ hd (show RelV (.ref a) (Value.ref a) from rfl)
  have hu := hr.un
  refine repr_of_reads' rd hs (fun z => by rw [hn] at z; cases z) hg (by omega) (fun b o z => z) (fun h' u tk hk => ?_) hz
  exact ⟨.str dt.shown, H, I.un (t' := tk) (Un.kept hk) (I.hok.kept hk), ⟨u, rfl⟩, q⟩
end
end TS
namespace TS
open PySem PySem.Spec PyProof.Rows L2
/-! repr of a tree, a text, a number, None, an empty list or dict, also while an exception is handled -/
theorem small_log {n : Int} (h : n.natAbs < 2 ^ 4) : n.natAbs.log2 < 4 := by
  by_cases z : n.natAbs = 0
  · rw [z]; decide
  · exact (Nat.log2_lt z).mpr h
theorem Tr.showable : ∀ t : Tr, t.fine → t.data.showable = true
  | .num n, h => by
    obtain ⟨h1, h2⟩ := h
    have := small_log (n := n) (by omega)
    simp only [Tr.data, PyData.showable, decide_eq_true_eq]
    omega
  | .wd x, _ => by simp [Tr.data, PyData.showable]
  | .ch a b c d, h => by simp [Tr.data, PyData.showable, PyData.showableAll, Tr.showable a h.1, Tr.showable b h.2.1, Tr.showable c h.2.2.1, Tr.showable d h.2.2.2]
theorem Tr.noDict : ∀ t : Tr, t.data.hasDict = false
  | .num n => by simp [Tr.data, PyData.hasDict]
  | .wd x => by simp [Tr.data, PyData.hasDict]
  | .ch a b c d => by simp [Tr.data, PyData.hasDict, PyData.hasDictAll, Tr.noDict a, Tr.noDict b, Tr.noDict c, Tr.noDict d]
theorem digit_short : ∀ n : Fin 10, (PyData.int (n.val : Int)).shown.length ≤ 200 := by decide +kernel
theorem Tr.short : ∀ t : Tr, t.fine → PyData.leavesShort 200 t.data = true
  | .num n, h => by
    obtain ⟨h1, h2⟩ := h
    have e := digit_short ⟨n.toNat, by omega⟩
    have e2 : ((n.toNat : Nat) : Int) = n := Int.toNat_of_nonneg h1
    rw [show (((⟨n.toNat, by omega⟩ : Fin 10).val : Nat) : Int) = n from e2] at e
    simpa [Tr.data, PyData.leavesShort] using e
  | .wd x, h => by
    have p := plain_word h
    simp only [Tr.data, PyData.leavesShort, ← Array.all_toList, List.all_eq_true, decide_eq_true_eq]
    intro c hc
    have := p c hc
    omega
  | .ch a b c d, h => by simp [Tr.data, PyData.leavesShort, PyData.leavesShortAll, Tr.short a h.1, Tr.short b h.2.1, Tr.short c h.2.2.1, Tr.short d h.2.2.2]
theorem Tr.weight_le : ∀ (n : Nat) (t : Tr), t.fine → t.deep ≤ n → t.data.weight ≤ 9 * 5 ^ n
  | n, .num k, h, _ => by
    have p : 1 ≤ 5 ^ n := Nat.pow_pos (by decide)
    have : k.natAbs < 2 ^ 4 := by
      obtain ⟨h1, h2⟩ := h
      omega
    simp only [Tr.data, PyData.weight]
    split
    · omega
    · have := small_log this
      omega
  | n, .wd x, h, _ => by
    have p : 1 ≤ 5 ^ n := Nat.pow_pos (by decide)
    have := h.2.1
    simp only [Tr.data, PyData.weight]
    have e : x.cps.size ≤ 8 := this
    omega
  | 0, .ch a b c d, _, h => by simp [Tr.deep] at h
  | n + 1, .ch a b c d, h, hd => by
    have q : a.deep ≤ n ∧ b.deep ≤ n ∧ c.deep ≤ n ∧ d.deep ≤ n := by
      simp only [Tr.deep] at hd
      omega
    have p : 1 ≤ 5 ^ n := Nat.pow_pos (by decide)
    have h1 := Tr.weight_le n a h.1 q.1
    have h2 := Tr.weight_le n b h.2.1 q.2.1
    have h3 := Tr.weight_le n c h.2.2.1 q.2.2.1
    have h4 := Tr.weight_le n d h.2.2.2 q.2.2.2
    simp only [Tr.data, PyData.weight, PyData.weightAll, Nat.pow_succ]
    omega
theorem Tr.shown_le {t : Tr} (h : t.fine) (hd : t.deep ≤ 3) : t.data.shown.length ≤ sizeLine := by
  have h1 := PyData.shown_le 200 (by decide) t.data (Tr.short t h)
  have h2 := Tr.weight_le 3 t h hd
  have h3 : (5 : Nat) ^ 3 = 125 := by decide
  rw [h3] at h2
  have h4 : (200 + 2) * t.data.weight + 200 ≤ 16777216 := by omega
  rw [sizeLine_eq]
  omega
/-- what repr tells of a value -/
inductive Rep (K : PySem.W.Frag) (H : Hp) : V → Str → Prop
  | dat {a : Addr} {dt : PyData} : Dp K H (.ref a) dt → dt.showable = true → dt.hasDict = false → dt.depth ≤ 20 → dt.shown.length ≤ sizeLine → Rep K H (.ref a) dt.shown
  | emp {a : Addr} : H a = some (.dK []) → Rep K H (.ref a) (PyData.dict []).shown
  | non : Rep K H .non "None"
  | bl (b : Bool) : Rep K H (.bl b) (if b = true then "True" else "False")
  | int {i : Int} : i.natAbs.log2 < 1920 → Rep K H (.int i) (toString i)
  | str {x : Str} : (reprText x).length ≤ sizeLine → Rep K H (.str x) (reprText x)
theorem rep_text {K : PySem.W.Frag} {H : Hp} {x : Str} (h : Plain x) (hl : x.length ≤ 1000) : Rep K H (.str x) (reprText x) := by
  refine .str ?_
  have := StrLaws.reprText_len x fun c hc => by
    have := h c hc
    have e : (16 : Nat) ^ 8 = 4294967296 := by decide
    omega
  rw [sizeLine_eq]
  omega
theorem rep_tree {K : PySem.W.Frag} {H : Hp} {v : V} {t : Tr} (h : TrAt H v t) (hf : t.fine) (hd : t.deep ≤ 3) : ∃ s, Rep K H v s := by
  cases h with
  | num n =>
    obtain ⟨h1, h2⟩ := hf
    have := small_log (n := n) (by omega)
    exact ⟨_, .int (by omega)⟩
  | wd x =>
    refine ⟨_, rep_text (plain_word hf) ?_⟩
    have := hf.2.1
    have e : x.length ≤ 8 := this
    omega
  | ch hp ha hb hc hdd =>
    have hT := TrAt.ch hp ha hb hc hdd
    refine ⟨_, .dat (Tr.dp hT) (Tr.showable _ hf) (Tr.noDict _) ?_ (Tr.shown_le hf hd)⟩
    refine Nat.le_trans (Nat.le_of_succ_le_succ (Tr.ddepth _)) (Nat.le_trans hd (by decide))
def rRepX (K : PySem.W.Frag) : List V → Hp → VK → Prop := fun xs H Q => ∃ (v : V) (t : Str), xs = [v] ∧ Rep K H v t ∧ Q (.str t) H
section
variable {X : Cx}
theorem call_reprX (hg : X.A.guards = some []) (hu : X.A.units + 64 < cLine) : CallR X (.builtin "repr") (rRepX X.K) := by
  intro pins s σ H xs us Q I r h
  obtain ⟨v, t, rfl, hR, q⟩ := h
  obtain ⟨u1, rfl, r1⟩ : ∃ u1, us = [u1] ∧ RelV v u1 := by
    cases r with
    | cons ra rr =>
      cases rr
      exact ⟨_, rfl, ra⟩
  cases hR with
  | dat hd hs hn hdp hz =>
    rename_i a dt
    obtain rfl : u1 = Value.ref a := r1
    obtain ⟨as, rd⟩ := Dp.reads I dt _ _ hd (show RelV (.ref a) (Value.ref a) from rfl)
    refine repr_of_reads' rd hs (fun z => by rw [hn] at z; cases z) hg (by omega) (fun b o z => z) (fun h' u tk hk => ?_) hz
    exact ⟨.str dt.shown, H, I.un (t' := tk) (Un.kept hk) (I.hok.kept hk), ⟨u, rfl⟩, q⟩
  | emp hd =>
    rename_i a
    obtain rfl : u1 = Value.ref a := r1
    have z := I.hok a _ hd
    simp only [L2.ObjOk] at z
    obtain ⟨_, ns, vs, kv, o, es, ep, ho, ex, od, _, pp, _⟩ := z
    cases kv
    have ee : es.toList = [] := by
      cases e : es.toList with
      | nil => rfl
      | cons x l => rw [e] at pp; cases pp
    have rd : Reads s.heap (.ref a) (.dict []) (a :: [] ++ []) := .dict ho ex.1 od (by rw [ee]; exact .nil) (by rw [ee]; exact .nil)
    refine repr_of_reads' rd rfl (fun _ m => ?_) hg (by show X.A.units + ((PyData.dict []).depth + 1) < cLine; have e : (PyData.dict []).depth ≤ 5 := by decide +kernel
                                                        omega) (fun b o z => z) (fun h' u tk hk => ?_) (by decide +kernel)
    · simp at m
      subst m
      simp at ns
    · exact ⟨.str (PyData.dict []).shown, H, I.un (t' := tk) (Un.kept hk) (I.hok.kept hk), ⟨u, rfl⟩, q⟩
  | non =>
    obtain rfl : u1 = Value.none := r1
    exact P.repr_of_none ⟨.str "None", H, I.tok _, ⟨_, rfl⟩, q⟩
  | bl b =>
    obtain rfl : u1 = Value.bool b := r1
    refine P.repr_of_bool ?_
    exact ⟨.str (if b = true then "True" else "False"), H, I.tok _, ⟨_, rfl⟩, q⟩
  | int hi =>
    obtain ⟨tk, rfl⟩ := r1
    rename_i i
    exact P.repr_of_int hi ⟨.str (toString i), H, I.tok _, ⟨_, rfl⟩, q⟩
  | str hx =>
    obtain ⟨tk, rfl⟩ := r1
    rename_i x
    exact P.repr_of_str ⟨.str (reprText x), H, I.tok _, ⟨_, rfl⟩, q⟩ hx
end
end TS
namespace TS
open PySem PySem.Spec PyProof.Rows PySem.W PySem.Calls L2
/-! isinstance(e, c), e the own error that is handled, with its dict -/
def rIsXd (K : Frag) (cls : Value) (d : Option Addr) (a : Addr) : List V → Hp → VK → Prop := fun xs H Q => ∃ (C dd : Addr) (fs : List (Str × V)) (c : V) (cv : Value) (b : Bool), xs = [.ref a, c] ∧ cls = .ref C ∧ d = some dd ∧ H dd = some (.xd fs) ∧
  IsX K C ∧ ClsV c cv ∧ kitOne K (.ref C) cv = some b ∧ Q (.bl b) H
theorem call_isXd {X : Cx} {a : Addr} {oe : Obj} {cls : Value} {d : Option Addr} {pn : List (Addr × Obj)} (hz : Zc cls d oe) (hf : ∃ vs, oe.data = .fields vs) : CallR (X.suite a ((a, oe) :: pn)) (.builtin "isinstance") (rIsXd X.K cls d a) := by
  intro pins s σ H xs us Q I r h
  obtain ⟨C, dd, fs, c, cv, b, rfl, rfl, rfl, ed, T, kc, ek, q⟩ := h
  obtain ⟨u1, u2, rfl, r1, r2⟩ := vals2 r
  have e2 := kc.eq r2
  subst e2
  obtain rfl : u1 = Value.ref a := r1
  have hp := (I.pin (a, oe) (by simp)).1
  have z := I.hok dd _ ed
  simp only [L2.ObjOk] at z
  obtain ⟨mA, hns, rel⟩ := z
  obtain ⟨od, hod, hl⟩ := lookIn_ns hns
  obtain ⟨vs, hvs⟩ := hf
  obtain ⟨z1, z2⟩ := hz
  have no : notCls oe = true := by
    unfold notCls
    rw [hvs]
  have J : InstAt s.heap a oe C (some od) := ⟨hp, z1, no, by rw [z2]; exact hod⟩
  exact kia_one (kitx_exc T.hcl T.x.ga T.x.gg T.x.exC T.ha T.hn T.htk T.hm) I.kIn J ek (fun z => nomatch z) fun tk => ⟨.bl b, H, I.tok tk, rfl, q⟩
end TS
namespace TS
open PySem PySem.Spec PyProof.Rows PySem.W PySem.Calls L2
/-- the def at f keeps sp where nothing is being shown (no repr under way) -/
structure FnG (P : Program) (w : World) (K : Frag) (mg : Str → Option Value) (base : Heap) (k : Nat) (f : Addr) (fd : FuncData) (ps : List Str) (sp : Sp) : Prop where
  len : ∀ vs H Q E, sp vs H Q E → vs.length = ps.length
  run : ∀ (A : Around) (outer : List Env) (s : Shared) (H : Hp) (args : Args) (us : List Value) (vs : List V) (Q : VK) (E : XK), A.guards = some [] → Room k A → Env0 P w K mg base A outer s H → BindsTo s fd args (ps.zip us) → Vals vs us → sp vs H Q E →
    codeAny (model P w) A (.call (.ref f) args) (CR CX0 outer P w H s Q E) s
section
variable {P : Program} {w : World} {K : Frag} {mg : Str → Option Value} {base : Heap}
theorem okG {x qual : Str} {st : Stmt} {f : Addr} {fd : FuncData} {N ps : List Str} {k : Nat} {sp : Sp} (F : Fun K x qual st f fd) (S : FnScope N ps (defScope st)) (len : ∀ vs H Q E, sp vs H Q E → vs.length = ps.length)
    (hbody : ∀ (cdv : Value) (A : Around) (outer : List Env) (s : Shared) (H : Hp) (vs : List V) (Q : VK) (E : XK), A.guards = some [] → Room k (A.deeper (envOfC qual (defScope st) s.heap.objs.size f cdv)) → sp vs H Q E →
      ∃ t, PSs (cxOf CX0 P w K mg base N qual (defScope st) f cdv A outer s H E).nox (defBody st) t ∧ t { nx := fun _ H' => Q .non H', rt := Q } (start N vs) H) : FnG P w K mg base (k + 1) f fd ps sp := by
  obtain ⟨oc, od, kV, doc, pm, an, cdv, ct, osl, rfl, lk, hcd⟩ := F.ex
  refine ⟨len, fun A outer s H args us vs Q E hg hr e0 hb r hsp => ?_⟩
  have hl := len _ _ _ _ hsp
  have KX : K.In s.heap := e0.mod.kin.keeps fun b o z => (e0.bs b o z).1
  have nolim : s.heap.NoLimit := e0.mod.nolimit.keeps fun b o z => (e0.bs b o z).1
  have kinds : ∀ y ∈ ps.zip us, (defScope st).names.lookup y.1 = some .local ∨ ((defScope st).names.lookup y.1 = some .cell ∧ ((cellsFrom (s.heap.objs.size + 1) (defScope st).names []).lookup y.1).isSome = true) := fun ⟨n, v⟩ hy => by
    rcases S.par n (List.of_mem_zip hy).1 with z | z
    · exact .inl z
    · exact .inr ⟨z, cellsFrom_some _ _ _ (.inl z)⟩
  refine codeAny_call_function hr.depth (KX _ _ lk) rfl S.co S.gen rfl (codeRec_of KX hcd) (hb _ _ _ _ ?_)
  refine wpAny_newFunctionEnv_cells S.kind kinds fun env he s1 ic => ?_
  subst he
  refine ⟨nolim.keeps ic.toInCall.keep, codeAny_func ?_⟩
  obtain ⟨t, ht, hq⟩ := hbody cdv A outer s H vs Q E hg (hr.deeper _) hsp
  have J : Inv (cxOf CX0 P w K mg base N qual (defScope st) f cdv A outer s H E) [] (start N vs) H s1 := inv_start S hr.hd e0 hl r ic
  refine wpAny_mono (ht.nox.run [] s1 (start N vs) H _ J hq) (fun fl s' hs => ?_) fun er s' hs => hs
  have fin : ∀ {σ' : L2.St} {H' : Hp} {v : V} {u : Value}, Inv (cxOf CX0 P w K mg base N qual (defScope st) f cdv A outer s H E) [] σ' H' s' → RelV v u → Q v H' → CE outer P w H s Q u s' :=
    fun {σ' H' v u} J' rv z => ⟨v, H', J'.os, J'.bare, J'.base, J'.hok, rv, z⟩
  cases fl with
  | ret u =>
    obtain ⟨v, σ', H', J', rv, z⟩ := hs
    exact fin J' rv z
  | next =>
    obtain ⟨σ', H', J', z⟩ := hs
    exact fin (v := V.non) (u := Value.none) J' rfl z
  | brk =>
    obtain ⟨_, _, _, z⟩ := hs
    exact False.elim z
  | cont =>
    obtain ⟨_, _, _, z⟩ := hs
    exact False.elim z
end
section
variable {X : Cx} {k : Nat} {f : Addr} {fd : FuncData} {ps : List Str} {sp : Sp} {E : XK} {x : Str} {p pos : Pos} {e : Expr} {es : List Expr} {t : TA}
theorem pe_callG (F : FnG X.prog X.w X.K X.mg X.base k f fd ps sp) (hG : X.A.guards = some []) (hr : Room k X.A) (hg : Gl X x) (hm : X.mg x = some (.ref f)) (hk : keepIn X.K (.ref f) = true) (hb : Binds X.K fd ps [])
    (ha : PA X (e :: es) t) (hdb : (x == ("__debug__" : Str)) = false := by decide) (he : starEach (e :: es) X.env = (false, eval e X.env) :: starEach es X.env := by rfl) (hpl : (backTo pos (starEach es X.env)).any (·.1) = false := by rfl) :
    PE X (.Call (.Name x p) (e :: es) [] pos) (tCall sp [] E t) := by
  refine ⟨fun pins s σ H Q I h => ?_⟩
  refine wpAny_Call_Name_kw (ld_glob I hg hm ?_ hdb)
  refine callWith_K (h₀ := X.base) I.ok.mod.kin hk (thn (ha.run pos pins s σ H _ I h) fun us s1 ⟨vs, H1, I1, r, q⟩ => ⟨I1.kIn, ?_⟩) he hpl
  have r2 : Vals (vs ++ []) (us ++ []) := r.append .nil
  have hl : (us ++ []).length = ps.length := by
    rw [← r2.length]
    exact F.len _ _ _ _ q
  refine wpAny_call (codeAny_mono (F.run X.A X.stack s1 H1 ⟨us, []⟩ (us ++ []) (vs ++ []) Q E hG hr I1.env0 (hb s1 us I1.kIn hl) r2 q) fun r' s' hq => ?_)
  cases r' with
  | error er => exact hq.elim
  | ok fl =>
    cases fl with
    | ret u => exact I1.after hq
    | next => exact False.elim hq
    | brk => exact False.elim hq
    | cont => exact False.elim hq
end
end TS
namespace TS
open PySem PySem.Spec PyProof.Rows PySem.W PySem.Calls L2
theorem law_callG {P : Program} {w : World} {K : Frag} {mg mb : Str → Option Value} {k : Nat} {fa a : Addr} {fd : FuncData} {x : Str} {sp : Sp} {s1 : Shared} {vs : List Value} {ns : List Int}
    (KX : K.In s1.heap) (hns : s1.heap.Ns mainGlobals mg) (hb : s1.heap.Ns builtinsNs mb) (hbb : ∀ x : Str, x ≠ "__name__" → mb x = bootBuiltins x) (hlim : s1.heap.NoLimit) (hg : s1.gens = #[])
    (ha : s1.heap.get? a = some { cls := .type "list", data := .seq vs.toArray }) (hi : IntsAre vs ns) (hl : ns.length ≤ sizeLine) (hr : Room k callerA)
    (F : ∀ base : Heap, K.In base → base.Ns mainGlobals mg → FnG P w K mg base k fa fd [x] sp) (hbind : ∀ (s : Shared) (u : Value), BindsTo s fd ⟨[u], []⟩ [(x, u)])
    (hsp : ∀ H : Hp, Only H → SqL K H a (ns.map V.int) → sp [.ref a] H (fun v _ => v = .bl true) fun _ _ _ => False) :
    codeAny (model P w) callerA (.call (.ref fa) ⟨[.ref a], []⟩) (fun r s' => r = .ok (.ret (.bool true)) ∧ OldK s1.heap s'.heap ∧ s'.os = s1.os ∧ AllBare s'.gens) s1 := by
  have rv := vals_ints hi
  have lenV := hi.length
  have core : ∀ H : Hp, Only H → SqL K H a (ns.map V.int) → HOk P w H s1.heap → (∀ b, H b ≠ none → b = a) → (H a ≠ none → K.lookup a = none) →
      codeAny (model P w) callerA (.call (.ref fa) ⟨[.ref a], []⟩) (fun r s' => r = .ok (.ret (.bool true)) ∧ OldK s1.heap s'.heap ∧ s'.os = s1.os ∧ AllBare s'.gens) s1 := by
    intro H hO hS hok hA hK
    have lay : ∀ {b : Addr} {o : Obj}, s1.heap.get? b = some o → H b = none → (hidT s1.heap H).get? b = some o := fun z n => hidT_get z n
    have dic : ∀ {b : Addr} {o : Obj} {es : Array DictEntry} {ep : Nat}, s1.heap.get? b = some o → o.data = .dict es ep → H b = none := fun {b o es ep} z y => by
      cases c : H b with
      | none => rfl
      | some u =>
        have e' : b = a := hA b (by rw [c]; simp)
        subst e'
        rw [ha] at z
        cases z
        have y' : Data.seq vs.toArray _ = Data.dict es ep := y
        cases y'
    have nsK : ∀ {b : Addr} {m : Str → Option Value}, s1.heap.Ns b m → (hidT s1.heap H).Ns b m := fun {b m} ⟨o, es, ep, z, y, r⟩ => ⟨o, es, ep, lay z (dic z y), y, r⟩
    have hKb : K.In (hidT s1.heap H) := fun b o z => lay (KX b o z) (by
      cases c : H b with
      | none => rfl
      | some u =>
        have e' : b = a := hA b (by rw [c]; simp)
        subst e'
        rw [hK (by rw [c]; simp)] at z
        cases z)
    have hM : Mod K mg (hidT s1.heap H) := ⟨hKb, nsK hns, ⟨mb, nsK hb, hbb⟩, let ⟨mc, h1, h2⟩ := hlim; ⟨mc, nsK h1, h2⟩⟩
    have e0 : Env0 P w K mg (hidT s1.heap H) callerA [] s1 H :=
      ⟨rfl, hM, fun b o z => of_hidT z, Nat.le_of_eq (hidT_size _ _), trivial, fun b z => absurd (show b ∈ ([] : List Addr) from z) (by simp), hok, .of_eq hg⟩
    have go := (F _ hKb (nsK hns)).run callerA [] s1 H ⟨[.ref a], []⟩ [.ref a] [.ref a] _ _ rfl hr e0 (hbind s1 (.ref a)) (.cons rfl .nil) (hsp H hO hS)
    refine codeAny_mono go fun r s' h => ?_
    cases r with
    | error er => exact h.elim
    | ok fl =>
      cases fl with
      | next => exact False.elim h
      | brk => exact False.elim h
      | cont => exact False.elim h
      | ret u =>
        obtain ⟨v, H', os, bare, un, hok', r', q⟩ := h
        have q' : v = .bl true := q
        subst q'
        obtain rfl : u = Value.bool true := r'
        refine ⟨rfl, OldK.of_keep fun b o z => ?_, os, bare⟩
        cases c : H b with
        | none => exact un.keep b o z c (fun y => absurd (show b ∈ ([] : List Addr) from y) (by simp)) (by simp)
        | some u =>
          rcases hO b with y | ⟨ob, xs, y⟩
          · rw [c] at y
            cases y
          · have y2 := un.frzs b ob _ y
            obtain ⟨g1, _⟩ := hok b _ y
            obtain ⟨g2, _⟩ := hok' b _ y2
            rw [z] at g1
            cases g1
            exact g2
  cases hk : K.lookup a with
  | some o =>
    have z := KX a o hk
    rw [ha] at z
    cases z
    exact core (fun _ => none) (fun _ => .inl rfl) (.inr ⟨_, vs.toArray, _, hk, rfl, rfl, rfl, by rw [List.size_toArray, lenV]; exact hl, by simpa using rv⟩)
      (fun b u z => by
        have z' : (none : Option HO) = some u := z
        cases z') (fun b z => absurd rfl z) fun z => absurd rfl z
  | none =>
    refine core (fun b => if b = a then some (.frz { cls := .type "list", data := .seq vs.toArray } (.lst (ns.map V.int))) else none) (fun b => ?_) (.inl (.inr ⟨{ cls := .type "list", data := .seq vs.toArray }, if_pos rfl⟩)) (fun b u z => ?_) (fun b z => ?_) fun _ => hk
    · by_cases y : b = a
      · exact .inr ⟨_, _, if_pos y⟩
      · exact .inl (if_neg y)
    · by_cases y : b = a
      · have z' := (if_pos y).symm.trans z
        cases z'
        subst y
        exact ⟨ha, by rw [List.length_map]; exact hl, vs, _, rv, ha⟩
      · have z' := (if_neg y).symm.trans z
        cases z'
    · by_cases y : b = a
      · exact y
      · exact absurd (if_neg y) z
/-- what a law promises: from a list of at most 63 ints True comes out -/
def spLaw (K : Frag) : Sp := fun vs H Q _ => ∃ (a : Addr) (ns : List Int), vs = [.ref a] ∧ SqL K H a (ns.map V.int) ∧ ns.length ≤ 63 ∧ ∀ H', Q (.bl true) H'
theorem walkG {l : OpenLaw} {k : Nat} {q : Program} {loose : List Str} {XP : (Str → Option Value) → Heap → Prop} {YP : World → Heap → Prop} {d : DefRec} {K : Params → Frag}
    (hn : l.most = some 63) (hdf : d.params.defaults = []) (hr : Room k callerA)
    (hY : ∀ (w : World) (h : Heap), YP w h → (K w.params).In h)
    (F : ∀ (w : World) (mg : Str → Option Value) (fa : Addr) (h : Heap), (K w.params).In h → h.Ns mainGlobals mg → mg d.name = some (.ref fa) →
      ∃ fd : FuncData, (∀ (s : Shared) (u : Value), BindsTo s fd ⟨[u], []⟩ [("script", u)]) ∧
        ∀ base : Heap, (K w.params).In base → base.Ns mainGlobals mg → FnG l.prog w (K w.params) mg base k fa fd ["script"] (spLaw (K w.params))) :
    WalkO q loose XP YP l.row.toRowW d [] (fun f vs => PySem.call f vs) := by
  refine Att.attach_call hn hdf fun w s0 s1 mg mb fa o pm cd doc a vs ns G Y ho hd hcd hmg hobj hints hlen hg => ?_
  have KX := hY w _ Y
  obtain ⟨fd, hb, hF⟩ := F w mg fa _ KX G.T.g hmg
  exact law_callG KX G.T.g G.T.b G.T.builtins G.T.nolimit hg hobj hints (Nat.le_trans hlen (by decide)) hr hF hb (fun H hO hS => ⟨a, ns, rfl, hS, hlen, fun _ => rfl⟩)
end TS
namespace TS
open PySem L2
abbrev sTold : Stmt := top 37
theorem Rep.same {K : PySem.W.Frag} {H H' : Hp} {v : V} {t : Str} (h : Rep K H v t) (s : Same H H') : Rep K H' v t := by
  cases h with
  | dat hd a b c d => exact .dat (dp_same s _ _ hd) a b c d
  | emp h => exact .emp (s _ _ h)
  | non => exact .non
  | bl b => exact .bl b
  | int h => exact .int h
  | str h => exact .str h
theorem TyX.same {K : PySem.W.Frag} {H H' : Hp} {v : V} {t : Value} (h : TyX K H v t) (s : Same H H') : TyX K H' v t := by
  cases h with
  | base h =>
    refine .base ?_
    cases h with
    | non => exact .non
    | bl x => exact .bl x
    | int i => exact .int i
    | str x => exact .str x
    | flt x => exact .flt x
    | lst h => exact .lst (s _ _ h)
    | frz h => exact .frz (s _ _ h)
    | tup h => exact .tup (s _ _ h)
    | dK h => exact .dK (s _ _ h)
    | dT h => exact .dT (s _ _ h)
    | ins h a b c d e => exact .ins (s _ _ h) a b c d e
  | byt b => exact .byt b
  | set h => exact .set (s _ _ h)
  | kList a b => exact .kList a b
  | kTuple a b => exact .kTuple a b
  | kDict a b => exact .kDict a b
  | fTuple h => exact .fTuple (s _ _ h)
  | fDict h => exact .fDict (s _ _ h)
theorem NoTree.same {K : PySem.W.Frag} {C : Addr} {H H' : Hp} {x : V} (h : NoTree K C H x) (s : Same H H') : NoTree K C H' x := by
  rcases h with h | ⟨tx, i, b, h1, h2⟩
  · exact .inl h
  · exact .inr ⟨tx, i, b, TyX.same h1 s, h2⟩
section
variable {P : Program} {w : World} {K : PySem.W.Frag} {mg : Str → Option Value} {base : Heap}
theorem scTold : FnScope ["thing", "e"] ["thing"] (defScope sTold) := ⟨rfl, rfl, rfl, by decide +kernel, rfl, by decide +kernel, by decide +kernel⟩
def spTold (K : PySem.W.Frag) (C : Addr) : Sp := fun vs H Q _ => ∃ x : V, vs = [x] ∧
  ((∃ t : Tr, Makes C H x t ∧ t.fine ∧ t.deep ≤ 3 ∧ ∀ H' l, Same H H' → H' l = some (.lst [.str "term", .str t.text]) → Q (.ref l) H') ∨
   (NoTree K C H x ∧ ∃ r, Rep K H x r ∧ ∀ H' l, Same H H' → H' l = some (.lst [.str "none", .str r, .bl true]) → Q (.ref l) H'))
theorem ok_told {C N TE fI f : Addr} {fdI fd : FuncData} (F : Fun K "_law_told" "_law_told" sTold f fd) (T : BltT mg) (mr : mg "repr" = none) (TK : TermK K mg C) (EN : ErrC P w K mg base "NoTerm" "value" N) (IN : IsX K N) (ex : PySem.W.exmOne K (.ref N) (.ref N) = some true)
    (mTE : mg "TiedError" = some (.ref TE)) (kTE : PySem.W.kitOne K (.ref N) (.ref TE) = some true)
    (MK : Mk K C fI) (bI : Binds K fdI ["self", "value"] []) (GI : FnOk P w K mg base (L2.CX P w) 12 fI fdI ["self", "value"] (spTInitX K C N))
    (hS : ∃ f fd, PySem.W.findIn K (.ref C) "__str__" = some (some (.ref f)) ∧ PySem.W.isFn K (.ref f) = true ∧ Binds K fd ["self"] [] ∧ FnOk P w K mg base CX0 1 f fd ["self"] (spTStr C)) : FnG P w K mg base 14 f fd ["thing"] (spTold K C) := by
  obtain ⟨f1, fd1, h1, i1, b1, G1⟩ := hS
  refine okG F scTold (fun vs H Q E h => ?_) (fun cdv A outer s H vs Q E hG hr h => ?_)
  · obtain ⟨x, rfl, _⟩ := h
    rfl
  obtain ⟨x, rfl, h⟩ := h
  have un := hr.un
  have hgS : ∀ a pn, (((cxOf CX0 P w K mg base ["thing", "e"] "_law_told" (defScope sTold) f cdv A outer s H E).nox.suite a pn)).A.guards = some [] := fun _ _ => hG
  have huS : ∀ a pn, (((cxOf CX0 P w K mg base ["thing", "e"] "_law_told" (defScope sTold) f cdv A outer s H E).nox.suite a pn)).A.units + 64 < cLine := fun _ _ => Nat.lt_of_le_of_lt (Nat.add_le_add_left (by decide) _) un
  have cR : ∀ a pn, CallR ((cxOf CX0 P w K mg base ["thing", "e"] "_law_told" (defScope sTold) f cdv A outer s H E).nox.suite a pn) (.builtin "repr") (rRepX K) := fun _ _ => call_reprX (hgS _ _) (huS _ _)
  have cI : ∀ (a : Addr) (oe : Obj) (cls : Value) (d : Option Addr) (pn : List (Addr × Obj)), Zc cls d oe → (∃ vs, oe.data = .fields vs) → CallR ((cxOf CX0 P w K mg base ["thing", "e"] "_law_told" (defScope sTold) f cdv A outer s H E).nox.suite a ((a, oe) :: pn)) (.builtin "isinstance") (rIsXd K cls d a) := fun _ _ _ _ _ hz hf => call_isXd hz hf
  have r3 : Room 3 _ := hr.mono (by decide)
  refine ⟨_, pss_one (ps_try_as (i := 1) (Wout := fun _ _ _ _ => False) rfl rfl scTold.nd rfl rfl ⟨rfl, by decide +kernel, .inl EN.mgC⟩ takes0
      (fun W pn xe tk _ => pss_one (ps_ret (pe_lst (pa_cons pe_str (pa_cons (pe_callTy (cr_strOwn G1 h1 i1 b1 pass0 r3) (by rfl) T.str (by decide +kernel) (pa_cons (pe_makeE (E := WE W) MK GI hr rfl TK.mgC bI (fun σ => passAt tk σ) (pa_cons (pv 0) pa_nil)) pa_nil)) pa_nil)))))
      (fun a oe cls d pn hz hf => pss_one (ps_ret (pe_lst (pa_cons pe_str (pa_cons (pe_callB (cR a ((a, oe) :: pn)) (by rfl) mr (by decide +kernel) (pa_cons (pe_xf EN.xf EN.no hz hf (pv 1)) pa_nil)) (pa_cons (pe_callB (cI a oe cls d pn hz hf) (by rfl) T.isi bIsi (pa_cons (pv 1) (pa_cons (pe_glob rfl mTE (show RelV (.ref TE) (.ref TE) from rfl)) pa_nil))) pa_nil))))))), ?_⟩
  refine ⟨_, rfl, fun b dxb nb ndb neb => ?_⟩
  have s0 : Same H (upd (upd H dxb (.own b)) b (.ins C dxb [])) := fun c o e => by
    rw [upd_ne (ne_of_none e nb), upd_ne (ne_of_none e ndb)]
    exact e
  refine ⟨b, dxb, x, rfl, upd_same, ?_⟩
  rcases h with ⟨t, hm, hf, hd, q⟩ | ⟨hb, r, hR, q⟩
  · refine .inl ⟨t, hm.same s0, hf, hd, fun H' sx ht => ⟨rfl, ?_⟩⟩
    have s1 : Same H H' := fun c o e => sx c o (s0 c o e) (ne_of_none e nb)
    have tm := ht [] (fun D m => by cases m) H' (SameOff.refl _ _)
    obtain ⟨_, _, dx, v, l, qq, r', ws, ns, e, _⟩ := id tm
    refine ⟨b, dx, _, rfl, e, b, t, rfl, tm, ⟨_, rfl⟩, by show 2 ≤ sizeLine; decide, fun L hL => ?_⟩
    exact q _ L (s1.trans (same_upd hL _)) upd_same
  · refine .inr ⟨?_, fun H1 d s1 hd => ?_⟩
    · exact hb.same s0
    · refine ⟨true, ex, fun _ a ha => ?_, fun z => nomatch z⟩
      have s01 : Same H H1 := s0.trans s1
      have s2 : Same H1 (upd H1 d (.xd [("value", x)])) := same_upd hd _
      have e1 : (upd H1 d (.xd [("value", x)])) d = some (.xd [("value", x)]) := upd_same
      generalize upd H1 d (.xd [("value", x)]) = H2 at s2 e1
      have s02 := s01.trans s2
      refine ⟨_, rfl, rfl, rfl, d, _, x, rfl, e1, rfl, x, r, rfl, hR.same s02, _, rfl, N, d, _, _, _, true, rfl, rfl, rfl, e1, IN, .own TE, kTE, by show 3 ≤ sizeLine; decide, fun L hL => ?_⟩
      exact q _ L (s02.trans (same_upd hL _)) upd_same
end
end TS
namespace TS
open PySem L2
abbrev sLDeep : Stmt := top 34
abbrev sLLeaves : Stmt := top 999
abbrev sLWords : Stmt := top 999
abbrev sLDigits : Stmt := top 999
abbrev sLKind : Stmt := top 999
section
variable {P : Program} {w : World} {K : PySem.W.Frag} {mg : Str → Option Value} {base : Heap}
/-! _law_tree_deep -/
theorem scLDeep : FnScope nmDepth ["tree"] (defScope sLDeep) := ⟨rfl, rfl, rfl, by decide +kernel, rfl, by decide +kernel, by decide +kernel⟩
theorem ok_ldeep {n : Nat} {f : Addr} {fd : FuncData} (F : Fun K "_law_tree_deep" "_law_tree_deep" sLDeep f fd) (T : BltT mg) (b : Binds K fd ["tree"] []) (m : mg "_law_tree_deep" = some (.ref f)) (G : FnOk P w K mg base CX0 n f fd ["tree"] (spDepth n)) :
    FnOk P w K mg base CX0 (n + 1) f fd ["tree"] (spDepth (n + 1)) := by
  refine F.ok scLDeep (fun vs H Q E h => ?_) (fun cdv A outer s H vs Q E hr h => ?_)
  · obtain ⟨v, t, rfl, _⟩ := h
    rfl
  obtain ⟨v, t, rfl, ht, hd, q⟩ := h
  refine ⟨_, pss_cons (ps_if (pt_val (pe_callB call_isi (by rfl) T.isi bIsi (pa_cons (pv 0) (pa_cons (pe_bltn (by rfl) T.tup (v := .ty "tuple") (by decide +kernel) rfl) pa_nil))))
      (pss_one (ps_ret (pe_op op_add pe_int (pe_callB (cr_max (by rfl)) (by rfl) T.max (by decide +kernel) (pa_cons
      (pe_lc (own := [("part", 1)]) (g := gName 1) (tt := tYes) (by rfl) scLDeep.nd (pi_tup (pv 0)) (blkOk_by (own := [("part", 1)]) (N := nmDepth) (sc := defScope sLDeep) (by decide +kernel)) (fun _ _ _ _ _ => pg_name (i := 1) scLDeep.nd rfl (Or.inl rfl)) (fun _ _ _ _ _ => pts_nil)
        (fun _ _ _ _ _ => pe_callTy call_int1 (by rfl) T.int (by decide +kernel) (pa_cons (pe_call G hr rfl m F.kp b .nil pass0 (pa_cons (pv 1) pa_nil)) pa_nil))) pa_nil))))) pss_nil)
    (pss_one (ps_ret pe_int)), ?_⟩
  obtain ⟨u, c, hty, hk, hc⟩ := isT (K := K) ht
  refine ⟨_, rfl, _, _, _, _, _, rfl, .ty "tuple", hty, hk, _, rfl, ?_⟩
  rcases hc with ⟨rfl, a, b', c, d, rfl⟩ | ⟨rfl, hc⟩
  · refine iteT ?_
    cases ht with
    | ch hp ha hb hc hdd =>
      rename_i p y0 y1 y2 y3
      have dd : a.deep ≤ n ∧ b'.deep ≤ n ∧ c.deep ≤ n ∧ d.deep ≤ n := by
        simp only [Tr.deep] at hd
        omega
      refine ⟨_, rfl, p, rfl, ⟨_, SqT.of hp⟩, fun D hD => lc_mapT (ys := [.int a.deep, .int b'.deep, .int c.deep, .int d.deep]) hp rfl (by show 4 ≤ 1000; decide) hD (fun _ => rfl) (fun i x y H1 R hx hy s1' hR => ?_) (fun H1 g1 hD1 => ?_)⟩
      · refine ⟨_, rfl, ?_⟩
        rcases i with _ | _ | _ | _ | i
        · cases hx
          cases hy
          exact ⟨_, a, rfl, ha.same s1', dd.1, fun H2 g2 => .inl ⟨_, rfl, hR H2 g2⟩⟩
        · cases hx
          cases hy
          exact ⟨_, b', rfl, hb.same s1', dd.2.1, fun H2 g2 => .inl ⟨_, rfl, hR H2 g2⟩⟩
        · cases hx
          cases hy
          exact ⟨_, c, rfl, hc.same s1', dd.2.2.1, fun H2 g2 => .inl ⟨_, rfl, hR H2 g2⟩⟩
        · cases hx
          cases hy
          exact ⟨_, d, rfl, hdd.same s1', dd.2.2.2, fun H2 g2 => .inl ⟨_, rfl, hR H2 g2⟩⟩
        · simp at hx
      · refine ⟨D, [(a.deep : Int), b'.deep, c.deep, d.deep], rfl, SqL.of hD1, by show 0 < 4; decide, fun m hm hy => ?_⟩
        refine ⟨_, _, rfl, rfl, ?_⟩
        have e : (1 : Int) + m = (((Tr.ch a b' c d).deep : Nat) : Int) := by
          simp only [Tr.deep]
          have h1 := hy a.deep (by simp)
          have h2 := hy b'.deep (by simp)
          have h3 := hy c.deep (by simp)
          have h4 := hy d.deep (by simp)
          simp only [List.mem_cons, List.not_mem_nil, or_false] at hm
          omega
        have q1 := q H1 g1
        rw [← e] at q1
        exact q1
  · refine iteF ?_
    have e : (t.deep : Int) = 1 := by
      rcases hc with ⟨k, rfl, rfl⟩ | ⟨x, rfl, rfl⟩ <;> rfl
    have q1 := q H (Same.refl H)
    rw [e] at q1
    exact q1
end
end TS
namespace TS
open PySem L2
abbrev sDue : Stmt := top 36
section
variable {P : Program} {w : World} {K : PySem.W.Frag} {mg : Str → Option Value} {base : Heap}
theorem read_all {f : Addr} {fd : FuncData} (F : Fun K "_law_read" "_law_read" sLRead f fd) (T : BltT mg) (b : Binds K fd ["text", "spot"] []) (m : mg "_law_read" = some (.ref f)) : ∀ n, FnOk P w K mg base CX0 n f fd ["text", "spot"] (spRead n)
  | 0 => none_read
  | n + 1 => ok_read F T b m (read_all F T b m n)
theorem deep_all {f : Addr} {fd : FuncData} (F : Fun K "_law_tree_deep" "_law_tree_deep" sLDeep f fd) (T : BltT mg) (b : Binds K fd ["tree"] []) (m : mg "_law_tree_deep" = some (.ref f)) : ∀ n, FnOk P w K mg base CX0 n f fd ["tree"] (spDepth n)
  | 0 => none_depth
  | n + 1 => ok_ldeep F T b m (deep_all F T b m n)
theorem scDue : FnScope ["text", "found"] ["text"] (defScope sDue) := ⟨rfl, rfl, rfl, by decide +kernel, rfl, by decide +kernel, by decide +kernel⟩
def dueOf (z : Str) : List V := match treeOf z with
  | some _ => [.str "term", .str z]
  | none => [.str "none", .str (reprText z), .bl true]
def spDue (R : Nat) : Sp := fun vs H Q _ => ∃ z : Str, vs = [.str z] ∧ z.length < R ∧ Plain z ∧ ∀ H' l, Same H H' → H' l = some (.lst (dueOf z)) → Q (.ref l) H'
theorem ok_due {R : Nat} {f f1 f2 : Addr} {fd fd1 fd2 : FuncData} (F : Fun K "_law_due" "_law_due" sDue f fd) (T : BltT mg) (mr : mg "repr" = none) (hR : 3 ≤ R) (hR2 : R ≤ 1000)
    (F1 : Fun K "_law_read" "_law_read" sLRead f1 fd1) (b1 : Binds K fd1 ["text", "spot"] []) (m1 : mg "_law_read" = some (.ref f1)) (F2 : Fun K "_law_tree_deep" "_law_tree_deep" sLDeep f2 fd2) (b2 : Binds K fd2 ["tree"] []) (m2 : mg "_law_tree_deep" = some (.ref f2)) :
    FnG P w K mg base (R + 1) f fd ["text"] (spDue R) := by
  have G1 : FnOk P w K mg base CX0 R f1 fd1 ["text", "spot"] (spRead R) := read_all F1 T b1 m1 R
  have G2 : FnOk P w K mg base CX0 R f2 fd2 ["tree"] (spDepth R) := deep_all F2 T b2 m2 R
  refine okG F scDue (fun vs H Q E h => ?_) (fun cdv A outer s H vs Q E hG hr h => ?_)
  · obtain ⟨z, rfl, _⟩ := h
    rfl
  obtain ⟨z, rfl, hz, hp, q⟩ := h
  have hg : (cxOf CX0 P w K mg base ["text", "found"] "_law_due" (defScope sDue) f cdv A outer s H E).nox.A.guards = some [] := hG
  have hu : (cxOf CX0 P w K mg base ["text", "found"] "_law_due" (defScope sDue) f cdv A outer s H E).nox.A.units + 64 < cLine := by
    have := hr.un
    show (A.deeper _).units + 64 < cLine
    omega
  refine ⟨_, pss_cons (ps_set (i := 1) scDue.nd rfl (.inl rfl) (pe_call G1 hr rfl m1 F1.kp b1 .nil pass0 (pa_cons (pv 0) (pa_cons pe_int pa_nil))))
    (pss_cons (ps_if (PW.pt (pw_or (pt_cmpR op_isN (pv 1) pe_non (nomark _)) (pw_or (pt_cmpR op_ne (pe_ix ix_tup (pv 1) pe_int (fun _ _ => rfl)) (pe_callB call_len_str (by rfl) T.len PySem.boot_len (pa_cons (pv 0) pa_nil)) (nomark _))
        (pw_or1 (pt_cmpR op_gt (pe_call G2 hr rfl m2 F2.kp b2 .nil pass0 (pa_cons (pe_ix ix_tup (pv 1) pe_int (fun _ _ => rfl)) pa_nil)) pe_int (nomark _))))))
      (pss_one (ps_ret (pe_lst (pa_cons pe_str (pa_cons (pe_callB (call_reprX hg hu) (by rfl) mr (by decide +kernel) (pa_cons (pv 0) pa_nil)) (pa_cons pe_bl pa_nil)))))) pss_nil)
    (pss_one (ps_ret (pe_lst (pa_cons pe_str (pa_cons (pv 0) pa_nil)))))), ?_⟩
  have big : z.length ≤ sizeLine := Nat.le_trans (m := 1000) (by omega) (by decide)
  have rep : Rep K H (.str z) (reprText z) := rep_text hp (by omega)
  have tr := treeOf_read z hR
  unfold dueOf at q
  rw [tr] at q
  refine ⟨_, rfl, z, 0, rfl, Nat.le_trans (Nat.le_of_lt hz) (by omega), Nat.zero_le _, by omega, ?_⟩
  cases hA : treeAt z R 0 with
  | none =>
    rw [hA] at q
    intro H1 s1
    refine ⟨_, rfl, rfl, _, rfl, iteT ?_⟩
    refine iteT ⟨_, rfl, _, _, rfl, rep.same s1, by show 3 ≤ sizeLine; decide, fun l hl => q _ l (s1.trans (same_upd hl _)) upd_same⟩
  | some te =>
    obtain ⟨t, e⟩ := te
    rw [hA] at q
    simp only at q
    intro H1 p v s1 np hp2 ht
    refine ⟨_, rfl, rfl, _, rfl, ?_⟩
    rw [isNon_dec rfl]
    refine iteF ⟨_, rfl, p, _, _, _, rfl, rfl, SqT.of hp2, atI_nat (j := 1) rfl, _, rfl, z, rfl, big, rfl, _, rfl, ?_⟩
    have ret1 : (¬ (e = z.length ∧ t.deep ≤ 3)) → ∀ H', Same H H' → ∀ l, H' l = none → Q (.ref l) (upd H' l (.lst [.str "none", .str (reprText z), .bl true])) := fun c H' s' l hl => by
      rw [if_neg c] at q
      exact q _ l (s'.trans (same_upd hl _)) upd_same
    by_cases he : e = z.length
    · rw [show (!decide (V.int (e : Int) = V.int (z.length : Int))) = false by rw [he, decide_eq_true rfl]; rfl]
      refine iteF ⟨_, rfl, p, _, _, _, rfl, rfl, SqT.of hp2, atI_nat (j := 0) rfl, v, t, rfl, ht, ?_, fun H2 s2 => ?_⟩
      · exact (treeAt_more z R 0 _ _ hA).2
      · refine ⟨_, _, rfl, rfl, _, rfl, ?_⟩
        by_cases hd : t.deep ≤ 3
        · rw [show decide ((t.deep : Int) > 3) = false from decide_eq_false (by omega)]
          rw [if_pos ⟨he, hd⟩] at q
          exact iteF ⟨_, rfl, by show 2 ≤ sizeLine; decide, fun l hl => q _ l ((s1.trans s2).trans (same_upd hl _)) upd_same⟩
        · rw [show decide ((t.deep : Int) > 3) = true from decide_eq_true (by omega)]
          exact iteT ⟨_, rfl, _, _, rfl, rep.same (s1.trans s2), by show 3 ≤ sizeLine; decide, fun l hl => ret1 (fun c => hd c.2) _ (s1.trans s2) l hl⟩
    · rw [show (!decide (V.int (e : Int) = V.int (z.length : Int))) = true by rw [decide_eq_false (fun h => he (by injection h with h; omega))]; rfl]
      exact iteT (iteT ⟨_, rfl, _, _, rfl, rep.same s1, by show 3 ≤ sizeLine; decide, fun l hl => ret1 (fun c => he c.1) _ s1 l hl⟩)
end
end TS
namespace TS
open PySem L2
section
variable {P : Program} {w : World} {K : PySem.W.Frag} {mg : Str → Option Value} {base : Heap}
/-- [e for x in list], e a call that leaves all as it is -/
theorem lc_eachL {α : Type} (R : Hp → V → α → Prop) {p D : Addr} {xs : List V} {ts : List α} {k : Nat} {te : TE} {σ : St} {H : Hp} {Qd : Hp → Prop} (hp : H p = some (.lst xs)) (hl : ts.length = xs.length) (h6 : xs.length ≤ 1000) (hD : H D = none)
    (hw : ∀ v, wipe ((wipe σ [k]).set k v) [k] = wipe σ [k])
    (step : ∀ (i : Nat) (x : V) (t : α) (H1 : Hp) (G : VK), xs[i]? = some x → ts[i]? = some t → Same H H1 → Lists [D] H1 → (∀ (y : V) H2, Same H1 H2 → (∀ H3, SameOff [D] H2 H3 → R H3 y t) → G y H2) → te ((wipe σ [k]).set k (some x)) H1 G)
    (hd : ∀ H1 ys, Same H H1 → H1 D = some (.lst ys) → Each R H1 ys ts → Qd H1) :
    ∃ W : Nat → Nat → Hp → Prop, (∃ m, W 0 m (upd H D (.lst []))) ∧ ∀ i m H, W i m H →
      ((Itl K p).stop i H ∧ Qd H) ∨ ((Itl K p).go i H ∧ ∃ Nx : Hp → Prop, (∀ H', Nx H' → ∃ m', m' < m ∧ W (i + 1) m' H') ∧ ∀ x H', (Itl K p).yld i H x H' → gName k x (wipe σ [k]) H' fun σ2 H2 => wipe σ2 [k] = wipe σ [k] ∧ tYes σ2 H2 fun b H3 =>
        if b = true then te σ2 H3 fun y H4 => ∃ acc, H4 D = some (.lst acc) ∧ acc.length < sizeLine ∧ Nx (upd H4 D (.lst (acc ++ [y]))) else Nx H3) := by
  refine lc_list (K := K) (a := p) (xs := xs) (fun i H1 => Same H H1 ∧ ∃ ys, H1 D = some (.lst ys) ∧ Each (fun G v t => ∀ H3, SameOff [D] G H3 → R H3 v t) H1 ys (ts.take i)) ⟨same_upd hD _, [], upd_same, Each.nil⟩ (fun i H1 _ z => SqL.of (z.1 _ _ hp)) (fun i x H1 hx z => ?_) (fun H1 z => ?_)
  · obtain ⟨s1, ys, d1, e1⟩ := z
    have hi : i < xs.length := (List.getElem?_eq_some_iff.mp hx).1
    have ht : ts[i]? = some ts[i] := List.getElem?_eq_getElem (by omega)
    refine ⟨hw _, ?_⟩
    unfold tYes
    dsimp only
    rw [if_pos rfl]
    refine step i x ts[i] H1 _ hx ht s1 (fun b m => by rw [List.mem_singleton.mp m]; exact ⟨ys, d1⟩) fun y H2 s2 r2 => ?_
    refine ⟨ys, s2 _ _ d1, ?_, ?_⟩
    · have := e1.1
      rw [List.length_take] at this
      exact small1000 (by omega)
    · refine ⟨fun b o q => ?_, ys ++ [y], upd_same, ?_⟩
      · rw [upd_ne (ne_of_none q hD)]
        exact s2 _ _ (s1 _ _ q)
      · have e2 : Each (fun G v t => ∀ H3, SameOff [D] G H3 → R H3 v t) (upd H2 D (.lst (ys ++ [y]))) (ys ++ [y]) (ts.take i ++ [ts[i]]) :=
          ((e1.imp fun v t h H3 s3 => h H3 ((Same.off s2).trans s3)).snoc (R := fun G v t => ∀ H3, SameOff [D] G H3 → R H3 v t) (H := H2) r2).imp fun v t h H3 s3 => h H3 ((off_upd (SameOff.refl _ _) (by simp)).trans s3)
        rw [List.take_succ, ht]
        exact e2
  · obtain ⟨s1, ys, d1, e1⟩ := z
    rw [List.take_of_length_le (by omega)] at e1
    exact hd H1 ys s1 d1 (e1.imp fun v t h => h H1 (SameOff.refl _ _))
theorem each_of {φ : V → Tr → Prop} : ∀ (ys : List V), (∀ y ∈ ys, ∃ t, φ y t) → ∃ ts : List Tr, ys.length = ts.length ∧ ∀ (i : Nat) y t, ys[i]? = some y → ts[i]? = some t → φ y t
  | [], _ => ⟨[], rfl, fun i y t h => by simp at h⟩
  | y :: r, h => by
    obtain ⟨ts, e, hx⟩ := each_of r fun z hz => h z (by simp [hz])
    obtain ⟨t, p⟩ := h y (by simp)
    refine ⟨t :: ts, by simp [e], fun i y' t' a b => ?_⟩
    cases i with
    | zero =>
      simp at a b
      subst a b
      exact p
    | succ i =>
      simp at a b
      exact hx i y' t' a b
end
end TS
namespace TS
open PySem L2
abbrev sBent : Stmt := top 38
abbrev signs15 : Str := "(=?:)ab09 AZ-_"
theorem signs_len : signs15.length = 14 := by decide +kernel
theorem signs_plain : ∀ c ∈ signs15.cps.toList, c < 128 := by decide +kernel
theorem cut_sub {z : Str} {lo hi : Option Int} {c : Nat} (h : c ∈ (cutS z lo hi).cps.toList) : c ∈ z.cps.toList := List.mem_of_mem_drop (List.mem_of_mem_take h)
theorem cut_plain {z : Str} {lo hi : Option Int} (h : Plain z) : Plain (cutS z lo hi) := fun c hc => h c (cut_sub hc)
theorem app_plain {a b : Str} (ha : Plain a) (hb : Plain b) : Plain (a ++ b) := fun c h => by
  rw [codes_append] at h
  rcases List.mem_append.mp h with h | h
  · exact ha c h
  · exact hb c h
theorem cut_head (z : Str) (k : Nat) : (cutS z none (some (k : Int))).length ≤ k := by
  have e2 : HT.sIx z.length z.length (some (k : Int)) = min k z.length := HT.sIx_nat _ _ _
  rw [← len_codes]
  show (List.take (HT.sIx z.length z.length (some (k : Int)) - HT.sIx z.length 0 none) (List.drop (HT.sIx z.length 0 none) z.cps.toList)).length ≤ k
  rw [e2, List.length_take]
  omega
theorem cut_tail (z : Str) (k : Nat) : (cutS z (some (k : Int)) none).length ≤ z.length - k := by
  have e2 : HT.sIx z.length 0 (some (k : Int)) = min k z.length := HT.sIx_nat _ _ _
  rw [← len_codes]
  show (List.take (HT.sIx z.length z.length none - HT.sIx z.length 0 (some (k : Int))) (List.drop (HT.sIx z.length 0 (some (k : Int))) z.cps.toList)).length ≤ z.length - k
  rw [e2, List.length_take, List.length_drop, len_codes]
  omega
section
variable {P : Program} {w : World} {K : PySem.W.Frag} {mg : Str → Option Value} {base : Heap}
theorem scBent : FnScope ["pool", "text", "sign", "spot", "way"] ["pool", "text"] (defScope sBent) := ⟨rfl, rfl, rfl, by decide +kernel, rfl, by decide +kernel, by decide +kernel⟩
def spBent : Sp := fun vs H Q _ => ∃ (p : Addr) (z : Str), vs = [.ref p, .str z] ∧ PoolAt H p ∧ Plain z ∧ z.length ≤ 900 ∧ ∀ H' (y : Str), PoolOff p H H' → Plain y → y.length ≤ z.length + 1 → Q (.str y) H'
theorem ok_bent {f : Addr} {fd : FuncData} (F : Fun K "_law_bent" "_law_bent" sBent f fd) (T : BltT mg) (D1 : Has P w K mg base "_law_take" 1 ["pool", "bound"] spTake) (D2 : Has P w K mg base "_law_one" 2 ["pool", "things"] (spOne K)) : FnOk P w K mg base CX0 3 f fd ["pool", "text"] spBent := by
  obtain ⟨f1, fd1, m1, k1, b1, G1⟩ := D1
  obtain ⟨f2, fd2, m2, k2, b2, G2⟩ := D2
  refine F.ok scBent (fun vs H Q E h => ?_) (fun cdv A outer s H vs Q E hr h => ?_)
  · obtain ⟨p, z, rfl, _⟩ := h
    rfl
  obtain ⟨p, z, rfl, hp, hz, hl, q⟩ := h
  have r1 : Room 1 _ := hr.mono (by decide)
  refine ⟨_, pss_cons (ps_par (i := 2) (j := 3) (by rfl) scBent.nd rfl rfl (by decide) rfl rfl (pa_cons (pe_call G2 hr rfl m2 k2 b2 .nil pass0 (pa_cons (pv 0) (pa_cons pe_str pa_nil))) (pa_cons (pe_call G1 r1 rfl m1 k1 b1 .nil pass0 (pa_cons (pv 0) (pa_cons (pe_op op_add (pe_callB call_len_str (by rfl) T.len PySem.boot_len (pa_cons (pv 1) pa_nil)) pe_int) pa_nil))) pa_nil)) (by rfl))
    (pss_cons (ps_set (i := 4) scBent.nd rfl (.inl rfl) (pe_call G1 r1 rfl m1 k1 b1 .nil pass0 (pa_cons (pv 0) (pa_cons pe_int pa_nil))))
    (pss_cons (ps_if (pt_cmpR op_eq (pv 4) pe_int (nomark _)) (pss_one (ps_ret (pe_op op_add_str (pe_op op_add_str (pe_slice sl_str (pv 1) po_none (po_some (pv 3))) (pv 2)) (pe_slice sl_str (pv 1) (po_some (pv 3)) po_none)))) pss_nil)
    (pss_one (ps_ret (pe_ifExp (pt_cmpR op_eq (pv 4) pe_int (nomark _)) (pe_op op_add_str (pe_slice sl_str (pv 1) po_none (po_some (pv 3))) (pe_slice sl_str (pv 1) (po_some (pe_op op_add (pv 3) pe_int)) po_none))
      (pe_op op_add_str (pe_op op_add_str (pe_slice sl_str (pv 1) po_none (po_some (pv 3))) (pv 2)) (pe_slice sl_str (pv 1) (po_some (pe_op op_add (pv 3) pe_int)) po_none))))))), ?_⟩
  have big : z.length ≤ sizeLine := Nat.le_trans (m := 1000) (by omega) (by decide)
  refine ⟨_, rfl, p, .str signs15, rfl, hp, .inr ⟨signs15, rfl, by rw [signs_len]; decide, by rw [signs_len]; decide, fun H1 c hc s1 => ?_⟩⟩
  obtain ⟨x1, y1, e1, x10, y10, y11⟩ := id s1.2
  refine ⟨_, rfl, _, rfl, z, rfl, big, _, _, rfl, rfl, p, x1, y1, _, rfl, e1, x10, y10, y11, by omega, by omega, fun r x' y' r0 r2 a1 a2 a3 => ?_⟩
  have s2 : PoolOff p H1 (upd H1 p (.lst [.int x', .int y'])) := pool_upd a1 a2 a3
  generalize upd H1 p (.lst [.int x', .int y']) = H2 at s2
  obtain ⟨k, rfl⟩ : ∃ k : Nat, r = k := ⟨r.toNat, (Int.toNat_of_nonneg r0).symm⟩
  refine ⟨_, _, rfl, ?_⟩
  obtain ⟨x2, y2, e2, x20, y20, y21⟩ := id s2.2
  refine ⟨_, rfl, p, x2, y2, 3, rfl, e2, x20, y20, y21, by decide, by decide, fun way x' y' w0 w2 a1 a2 a3 => ?_⟩
  have s3 : PoolOff p H2 (upd H2 p (.lst [.int x', .int y'])) := pool_upd a1 a2 a3
  generalize upd H2 p (.lst [.int x', .int y']) = H3 at s3
  have s13 := (s1.trans s2).trans s3
  have sg : Plain ⟨#[c]⟩ := fun d hd => by
    have : d = c := by simpa using hd
    subst this
    exact signs_plain d hc
  have sl : (⟨#[c]⟩ : Str).length = 1 := rfl
  have h1 := cut_head z k
  have h2 := cut_tail z k
  have h3 := cut_tail z (k + 1)
  have p1 : Plain (cutS z none (some (k : Int))) := cut_plain hz
  have p2 : Plain (cutS z (some (k : Int)) none) := cut_plain hz
  have p3 : Plain (cutS z (some ((k : Int) + 1)) none) := cut_plain hz
  have h3' : (cutS z (some ((k : Int) + 1)) none).length ≤ z.length - (k + 1) := h3
  have hk : k ≤ z.length := by omega
  have sm : ∀ {n : Nat}, n ≤ 2000 → n ≤ sizeLine := fun h => Nat.le_trans h (by decide)
  refine ⟨_, rfl, rfl, _, rfl, ?_⟩
  refine ite2 (fun c0 => ?_) (fun c0 => ?_)
  · refine ⟨_, rfl, _, rfl, _, rfl, z, rfl, big, _, rfl, _, _, rfl, rfl, sm (by rw [sl]; omega), _, rfl, _, rfl, _, rfl, z, rfl, big, _, _, rfl, rfl, sm (by rw [Str.length_append, sl]; omega), ?_⟩
    exact q H3 _ s13 (app_plain (app_plain p1 sg) p2) (by rw [Str.length_append, Str.length_append, sl]; omega)
  · refine ⟨_, rfl, rfl, _, rfl, ?_⟩
    refine ite2 (fun c1 => ?_) (fun c1 => ?_)
    · refine ⟨_, rfl, _, rfl, _, rfl, z, rfl, big, _, rfl, _, rfl, _, _, rfl, rfl, _, rfl, z, rfl, big, _, _, rfl, rfl, sm (by omega), ?_⟩
      exact q H3 _ s13 (app_plain p1 p3) (by rw [Str.length_append]; omega)
    · refine ⟨_, rfl, _, rfl, _, rfl, z, rfl, big, _, rfl, _, _, rfl, rfl, sm (by rw [sl]; omega), _, rfl, _, rfl, _, _, rfl, rfl, _, rfl, z, rfl, big, _, _, rfl, rfl, sm (by rw [Str.length_append, sl]; omega), ?_⟩
      exact q H3 _ s13 (app_plain (app_plain p1 sg) p3) (by rw [Str.length_append, Str.length_append, sl]; omega)
end
end TS
namespace TS
open PySem L2
/-! repr of a plain text is plain -/
theorem quote_or (x : Str) : reprQuote x = 39 ∨ reprQuote x = 34 := by
  unfold reprQuote
  split <;> simp
theorem char39 : ∀ c : Fin 128, (Builtin.Str.reprChar 39 c.val).all (fun d => decide (d < 128)) = true := by decide +kernel
theorem char34 : ∀ c : Fin 128, (Builtin.Str.reprChar 34 c.val).all (fun d => decide (d < 128)) = true := by decide +kernel
theorem char_plain {q c d : Nat} (hq : q = 39 ∨ q = 34) (hc : c < 128) (hd : d ∈ Builtin.Str.reprChar q c) : d < 128 := by
  rcases hq with rfl | rfl
  · exact of_decide_eq_true (List.all_eq_true.mp (char39 ⟨c, hc⟩) d hd)
  · exact of_decide_eq_true (List.all_eq_true.mp (char34 ⟨c, hc⟩) d hd)
theorem fold_flat (f : Nat → List Nat) : ∀ (l : List Nat) (init : Array Nat), (l.foldl (fun out c => out ++ List.toArray (f c)) init).toList = init.toList ++ l.flatMap f
  | [], init => by simp
  | c :: l, init => by
    rw [List.foldl_cons, fold_flat f l]
    simp
theorem repr_codes (x : Str) : (reprText x).cps.toList = reprQuote x :: (x.cps.toList.flatMap (Builtin.Str.reprChar (reprQuote x)) ++ [reprQuote x]) := by
  show (Array.push (Array.foldl (fun out c => out ++ List.toArray (Builtin.Str.reprChar (reprQuote x) c)) #[reprQuote x] x.cps) (reprQuote x)).toList = _
  rw [Array.toList_push, ← Array.foldl_toList, fold_flat]
  simp
theorem repr_plain {x : Str} (h : Plain x) : Plain (reprText x) := fun d hd => by
  have q := quote_or x
  have q128 : reprQuote x < 128 := by omega
  rw [repr_codes] at hd
  simp only [List.mem_cons, List.mem_append, List.mem_flatMap, List.not_mem_nil, or_false] at hd
  rcases hd with rfl | ⟨c, hc, hd⟩ | rfl
  · exact q128
  · exact char_plain q (h c hc) hd
  · exact q128
end TS
namespace TS
open PySem L2
/-! texts that open four times are no terms; a text wrapped over and over -/
theorem choice_first {p : Nat → Option (Tr × Nat)} {cs : List Nat} {i : Nat} (h : p (i + 1) = none) : choiceAt p cs i = none := by
  unfold choiceAt
  simp only [partsAt, h]
  split <;> rename_i e
  · split at e <;> cases e
  · rfl
theorem treeAt_open {z : Str} {r i : Nat} (h : z.cps.toList[i]? = some 40) (n : treeAt z r (i + 1) = none) : treeAt z (r + 1) i = none := by
  unfold treeAt
  rw [h]
  simp only [if_true]
  exact choice_first n
theorem treeOf_open {z : Str} (h0 : z.cps.toList[0]? = some 40) (h1 : z.cps.toList[1]? = some 40) (h2 : z.cps.toList[2]? = some 40) : treeOf z = none := by
  unfold treeOf
  rw [treeAt_open h0 (treeAt_open h1 (treeAt_open h2 rfl))]
/-- '(' + z + '=a?b:c)' -/
def wrapT (z : Str) : Str := "(" ++ z ++ "=a?b:c)"
theorem wrap_codes (z : Str) : (wrapT z).cps.toList = 40 :: (z.cps.toList ++ [61, 97, 63, 98, 58, 99, 41]) := by
  have e1 : ("(" : Str).cps.toList = [40] := by decide +kernel
  have e2 : ("=a?b:c)" : Str).cps.toList = [61, 97, 63, 98, 58, 99, 41] := by decide +kernel
  unfold wrapT
  rw [codes_append, codes_append, e1, e2]
  rfl
theorem wrap_len (z : Str) : (wrapT z).length = z.length + 8 := by
  rw [← len_codes, wrap_codes, ← len_codes z]
  simp
theorem wrap_plain {z : Str} (h : Plain z) : Plain (wrapT z) := fun c hc => by
  rw [wrap_codes] at hc
  simp only [List.mem_cons, List.mem_append, List.not_mem_nil, or_false] at hc
  rcases hc with rfl | hc | hc
  · decide
  · exact h c hc
  · omega
/-- what holds of a text wrapped k times -/
structure Wrapped (k : Nat) (z : Str) : Prop where
  len : z.length = 1 + 8 * k
  pl : Plain z
  op : ∀ i, i < k → z.cps.toList[i]? = some 40
theorem Wrapped.zero : Wrapped 0 "a" := ⟨by decide +kernel, fun c hc => by
    have e : ("a" : Str).cps.toList = [97] := by decide +kernel
    rw [e] at hc
    simp at hc
    subst hc
    decide, fun i h => absurd h (Nat.not_lt_zero _)⟩
theorem Wrapped.succ {k : Nat} {z : Str} (h : Wrapped k z) : Wrapped (k + 1) (wrapT z) := by
  refine ⟨by rw [wrap_len, h.len]; omega, wrap_plain h.pl, fun i hi => ?_⟩
  rw [wrap_codes]
  cases i with
  | zero => rfl
  | succ i =>
    rw [List.getElem?_cons_succ, List.getElem?_append_left]
    · exact h.op i (by omega)
    · rw [len_codes, h.len]
      omega
theorem Wrapped.none {k : Nat} {z : Str} (h : Wrapped k z) (hk : 3 ≤ k) : treeOf z = none := treeOf_open (h.op 0 (by omega)) (h.op 1 (by omega)) (h.op 2 (by omega))
end TS
namespace TS
open PySem L2
section
variable {P : Program} {w : World} {K : PySem.W.Frag} {mg : Str → Option Value} {base : Heap}
theorem text_iff {t u : Tr} (hf : t.fine) (hd : t.deep ≤ 3) (gf : u.fine) (gd : u.deep ≤ 3) : decide (V.str t.text = V.str u.text) = PyData.eqv t.data u.data := by
  rw [Bool.eq_iff_iff, decide_eq_true_iff, Tr.eqv_iff]
  constructor
  · intro h
    injection h with h
    exact text_inj hf hd gf gd h
  · intro h
    rw [h]
theorem no_first {C : Addr} {t : Value} (h : PySem.W.kitOne K t (.ref C) = some false) : PySem.W.notFirst K C t = true := by
  unfold PySem.W.kitOne at h
  split at h
  · cases h
  · unfold PySem.W.kitCls at h
    simp only at h
    split at h
    · unfold PySem.W.notFirst
      rw [h]
      simp
    · cases h
theorem self_first {C : Addr} : PySem.W.notFirst K C (.ref C) = true := by
  unfold PySem.W.notFirst
  simp
/-- a Term beside a Term -/
theorem eq_term {C a b : Addr} {t u : Tr} {H : Hp} {Q : VK} {E : XK} {g : Bool → Bool} (TK : TermK K mg C) (ht : TermAt C H a t) (hu : TermAt C H b u) (q : Q (.bl (g (PyData.eqv t.data u.data))) H) : rOwn2 K C (spTEq K C) E g (.ref a) (.ref b) H Q := by
  obtain ⟨_, _, dx, v, l, qq, r, ws, ns, e, _⟩ := id ht
  obtain ⟨_, _, dx', v', l', qq', r', ws', ns', e', _⟩ := id hu
  refine ⟨a, dx, _, _, rfl, e, TK.ty e', self_first, a, t, .ref b, rfl, ht, .inl ⟨b, u, rfl, hu, _, rfl, ?_⟩⟩
  rw [text_iff ht.fine ht.deep hu.fine hu.deep]
  exact q
/-- a Term beside what is none -/
theorem eq_other {C a : Addr} {t : Tr} {y : V} {ty : Value} {H : Hp} {Q : VK} {E : XK} {g : Bool → Bool} (ht : TermAt C H a t) (hy : TyX K H y ty) (k : PySem.W.kitOne K ty (.ref C) = some false) (q : Q (.bl (g false)) H) : rOwn2 K C (spTEq K C) E g (.ref a) y H Q := by
  obtain ⟨_, _, dx, v, l, qq, r, ws, ns, e, _⟩ := id ht
  exact ⟨a, dx, _, _, rfl, e, hy, no_first k, a, t, y, rfl, ht, .inr ⟨ty, hy, k, _, rfl, q⟩⟩
theorem tree_ty {C : Addr} {H : Hp} {v : V} {t : Tr} (TK : TermK K mg C) (h : TrAt H v t) : ∃ ty, TyX K H v ty ∧ PySem.W.kitOne K ty (.ref C) = some false := by
  cases h with
  | num n => exact ⟨_, .base (.int n), TK.kInt⟩
  | wd x => exact ⟨_, .base (.str x), TK.kStr⟩
  | ch h _ _ _ _ => exact ⟨_, .base (.tup h), TK.kTup⟩
theorem eqv_self {t : Tr} (h : t.fine) : PyData.eqv t.data t.data = true := (Tr.eqv_iff t t).mpr rfl
theorem tr_num {H : Hp} {v : V} {n : Int} (h : TrAt H v (.num n)) : v = .int n := by
  cases h
  rfl
theorem tr_wd {H : Hp} {v : V} {x : Str} (h : TrAt H v (.wd x)) : v = .str x := by
  cases h
  rfl
/-- a Term made, once its places are known -/
theorem make_at {C : Addr} {H : Hp} {x : V} {t : Tr} {Z : VK} {E : XK} (hm : Makes C H x t) (hf : t.fine) (hd : t.deep ≤ 3) {a dx : Addr} (na : H a = none) (nd : H dx = none) (ne : dx ≠ a)
    (q : ∀ H', Same H H' → (∀ Ds, Lists Ds H → ∀ G, SameOff Ds H' G → TermAt C G a t) → Z .non H') : spTInit C (.ref a :: ([x] ++ [])) (upd (upd H dx (.own a)) a (.ins C dx [])) Z E := by
  have s0 : Same H (upd (upd H dx (.own a)) a (.ins C dx [])) := fun b o e => by
    rw [upd_ne (ne_of_none e na), upd_ne (ne_of_none e nd)]
    exact e
  exact ⟨a, dx, x, t, rfl, upd_same, hm.same s0, hf, hd, fun H' sx ht => q H' (fun b o e => sx b o (s0 b o e) (ne_of_none e na)) fun Ds hDs => ht Ds fun D m => let ⟨xs, e⟩ := hDs D m; ⟨xs, s0 _ _ e⟩⟩
end
end TS
namespace TS
open PySem L2
/-! statements by what holds ahead and behind, for a ghost i -/
section
variable {ι : Type} {X : Cx} {st : Stmt} {sts : List Stmt} {φ ψ χ : ι → St → Hp → Prop}
def Stm (X : Cx) (st : Stmt) (φ ψ : ι → St → Hp → Prop) : Prop := ∃ t, PS X st t ∧ ∀ i D σ H, φ i σ H → (∀ σ' H', ψ i σ' H' → D.nx σ' H') → t D σ H
def Stms (X : Cx) (sts : List Stmt) (φ ψ : ι → St → Hp → Prop) : Prop := ∃ t, PSs X sts t ∧ ∀ i D σ H, φ i σ H → (∀ σ' H', ψ i σ' H' → D.nx σ' H') → t D σ H
theorem Stms.nil : Stms X [] φ φ := ⟨_, pss_nil, fun i D σ H h k => k σ H h⟩
theorem Stms.cons (h1 : Stm X st φ ψ) (h2 : Stms X sts ψ χ) : Stms X (st :: sts) φ χ := by
  obtain ⟨t, a, b⟩ := h1
  obtain ⟨u, c, d⟩ := h2
  exact ⟨_, pss_cons a c, fun i D σ H h k => b i _ σ H h fun σ' H' g => d i D σ' H' g k⟩
theorem Stms.one (h1 : Stm X st φ ψ) : Stms X [st] φ ψ := by
  obtain ⟨t, a, b⟩ := h1
  exact ⟨_, pss_one a, fun i D σ H h k => b i D σ H h k⟩
theorem Stm.imp {φ' ψ' : ι → St → Hp → Prop} (h : Stm X st φ ψ) (p : ∀ i σ H, φ' i σ H → φ i σ H) (q : ∀ i σ H, ψ i σ H → ψ' i σ H) : Stm X st φ' ψ' := by
  obtain ⟨t, a, b⟩ := h
  exact ⟨t, a, fun i D σ H h k => b i D σ H (p _ _ _ h) fun σ' H' g => k _ _ (q _ _ _ g)⟩
end
/-- the body of a for -/
def forBody : Stmt → List Stmt
  | .For _ _ b _ _ => b
  | _ => []
abbrev noStmt : Stmt := .Pass ⟨0, 0, 0, 0⟩
/-- for i, x in enumerate(list) -/
theorem for_enum {K : PySem.W.Frag} {a : Addr} {xs : List V} {g : TG} {tb : TS} {D : Ends} {σ : St} {H : Hp} (Pv : Nat → St → Hp → Prop) (h0 : Pv 0 σ H) (hl : ∀ i σ H, i ≤ xs.length → Pv i σ H → SqL K H a xs)
    (hs : ∀ i x T σ H, xs[i]? = some x → Pv i σ H → H T = none → g (.ref T) σ (upd H T (.tup [.int (i : Nat), x])) fun σ2 H2 => tb { D with nx := Pv (i + 1), ct := Pv (i + 1), bk := D.nx } σ2 H2) (hd : ∀ σ H, Pv xs.length σ H → D.nx σ H) :
    ∃ W : Nat → Nat → St → Hp → Prop, (∃ m, W 0 m σ H) ∧ ∀ i m σ H, W i m σ H →
      ((Ite K a).stop i H ∧ D.nx σ H) ∨ ((Ite K a).go i H ∧ ∃ N : St → Hp → Prop, (∀ σ' H', N σ' H' → ∃ m', m' < m ∧ W (i + 1) m' σ' H') ∧ ∀ x H', (Ite K a).yld i H x H' → g x σ H' fun σ2 H2 => tb { D with nx := N, ct := N, bk := D.nx } σ2 H2) := by
  refine ⟨fun i m σ H => m = xs.length - i ∧ i ≤ xs.length ∧ Pv i σ H, ⟨xs.length, by simp, Nat.zero_le _, h0⟩, ?_⟩
  rintro i m σ H ⟨rfl, hi, p⟩
  have q := hl i σ H hi p
  by_cases hlt : i < xs.length
  · refine .inr ⟨⟨xs, xs[i], q, by simp [hlt]⟩, Pv (i + 1), fun σ' H' p' => ⟨xs.length - (i + 1), by omega, rfl, hlt, p'⟩, fun x H' y => ?_⟩
    obtain ⟨T, z, rfl, nT, rfl, y⟩ := y
    exact hs i z T σ _ (y xs q) p nT
  · have e : i = xs.length := by omega
    subst e
    exact .inl ⟨⟨xs, q, Nat.le_refl _⟩, hd σ H p⟩
end TS
namespace TS
open PySem L2
abbrev sLaw : Stmt := top 39
abbrev bLaw : List Stmt := forBody ((defBody sLaw).getD 3 noStmt)
abbrev nmLaw : List Str := ["script", "odd", "k", "pool", "words", "text", "four", "deep", "turn", "thing", "nested", "digit"]
theorem scLaw : FnScope nmLaw ["script"] (defScope sLaw) := ⟨rfl, rfl, rfl, by decide +kernel, rfl, by decide +kernel, by decide +kernel⟩
theorem plain_term : Plain "term" := by
  intro c hc
  have e : ("term" : Str).cps.toList = [116, 101, 114, 109] := by decide +kernel
  rw [e] at hc
  simp at hc
  omega
theorem plain_none : Plain "none" := by
  intro c hc
  have e : ("none" : Str).cps.toList = [110, 111, 110, 101] := by decide +kernel
  rw [e] at hc
  simp at hc
  omega
/-- ['term', text] and ['none', repr, True] as data -/
def termD (z : Str) : PyData := .list [.str "term", .str z]
def noneD (r : Str) : PyData := .list [.str "none", .str r, .bool true]
theorem termD_shaped {z : Str} (h : Plain z) : SeqAt.shaped (termD z) = true := shaped_mk (by simp [termD, PyData.canLay0, PyData.canLayAll0, plain_term.ok, h.ok]) (by simp [termD, PyData.depth, PyData.depthAll])
theorem noneD_shaped {z : Str} (h : Plain z) : SeqAt.shaped (noneD z) = true := shaped_mk (by simp [noneD, PyData.canLay0, PyData.canLayAll0, plain_none.ok, h.ok]) (by simp [noneD, PyData.depth, PyData.depthAll])
theorem termD_dp {K : PySem.W.Frag} {H : Hp} {l : Addr} {z : Str} (h : H l = some (.lst [.str "term", .str z])) : Dp K H (.ref l) (termD z) := .lst (SqL.of h) (.cons (.str _) (.cons (.str _) .nil))
theorem noneD_dp {K : PySem.W.Frag} {H : Hp} {l : Addr} {z : Str} (h : H l = some (.lst [.str "none", .str z, .bl true])) : Dp K H (.ref l) (noneD z) := .lst (SqL.of h) (.cons (.str _) (.cons (.str _) (.cons (.bl _) .nil)))
theorem termD_self {z : Str} : PyData.eqv (termD z) (termD z) = true := by simp [termD, PyData.eqv, PyData.eqvAll]
theorem noneD_self {z : Str} : PyData.eqv (noneD z) (noneD z) = true := by simp [noneD, PyData.eqv, PyData.eqvAll]
def HasG (P : Program) (w : World) (K : PySem.W.Frag) (mg : Str → Option Value) (base : Heap) (name : Str) (k : Nat) (ps : List Str) (sp : Sp) : Prop :=
  ∃ (f : Addr) (fd : FuncData), mg name = some (.ref f) ∧ PySem.W.keepIn K (.ref f) = true ∧ Binds K fd ps [] ∧ FnG P w K mg base k f fd ps sp
section
variable {P : Program} {w : World} {K : PySem.W.Frag} {mg : Str → Option Value} {base : Heap}
abbrev lawX (P : Program) (w : World) (K : PySem.W.Frag) (mg : Str → Option Value) (base : Heap) (f : Addr) (cdv : Value) (A : Around) (outer : List Env) (s : Shared) (H0 : Hp) (E : XK) : Cx := (cxOf CX0 P w K mg base nmLaw "law" (defScope sLaw) f cdv A outer s H0 E).nox
variable {f C a : Addr} {cdv : Value} {A : Around} {outer : List Env} {s : Shared} {H0 : Hp} {E : XK}
/-- if _law_told(thing) != _law_due(thing): return False -/
theorem b_due {R : Nat} (hr : Room (R + 1) (lawX P w K mg base f cdv A outer s H0 E).A) (hR : 14 ≤ R) (hR2 : R ≤ 1000) (hG : (lawX P w K mg base f cdv A outer s H0 E).A.guards = some []) (D1 : HasG P w K mg base "_law_told" 14 ["thing"] (spTold K C)) (D2 : HasG P w K mg base "_law_due" (R + 1) ["text"] (spDue R)) :
    ∃ t, PS (lawX P w K mg base f cdv A outer s H0 E) ((forBody (bLaw.getD 5 noStmt)).getD 0 noStmt) t ∧ ∀ (D : Ends) (σ : St) (H : Hp) (z : Str), σ[9]? = some (some (.str z)) → Plain z → z.length < R → (∀ H', Same H H' → D.nx σ H') → t D σ H := by
  obtain ⟨f1, fd1, m1, k1, b1, G1⟩ := D1
  obtain ⟨f2, fd2, m2, k2, b2, G2⟩ := D2
  have r14 : Room 14 (lawX P w K mg base f cdv A outer s H0 E).A := hr.mono (by omega)
  refine ⟨_, ps_if (pt_cmpR (op_neD hr.units) (pe_callG (E := E0) G1 hG r14 rfl m1 k1 b1 (pa_cons (pv 9) pa_nil)) (pe_callG (E := E0) G2 hG hr rfl m2 k2 b2 (pa_cons (pv 9) pa_nil)) (nomark _)) (pss_one (ps_ret pe_bl)) pss_nil, fun D σ H z e hp hz k => ?_⟩
  refine ⟨_, e, ?_⟩
  cases ht : treeOf z with
  | some t =>
    obtain ⟨e1, e2, e3⟩ := treeOf_out ht
    refine ⟨.str z, rfl, .inl ⟨t, .inl (by rw [e1]), e2, e3, fun H1 l1 s1 h1 => ?_⟩⟩
    refine ⟨_, e, z, rfl, hz, hp, fun H2 l2 s2 h2 => ?_⟩
    unfold dueOf at h2
    rw [ht] at h2
    rw [e1] at h1
    refine ⟨termD z, termD z, termD_dp (s2 _ _ h1), termD_dp h2, termD_shaped hp, termD_shaped hp, _, rfl, ?_⟩
    rw [termD_self]
    exact iteF (k _ (s1.trans s2))
  | none =>
    refine ⟨.str z, rfl, .inr ⟨.inl ⟨z, rfl, by omega, ht⟩, reprText z, rep_text hp (by omega), fun H1 l1 s1 h1 => ?_⟩⟩
    refine ⟨_, e, z, rfl, hz, hp, fun H2 l2 s2 h2 => ?_⟩
    unfold dueOf at h2
    rw [ht] at h2
    refine ⟨noneD (reprText z), noneD (reprText z), noneD_dp (s2 _ _ h1), noneD_dp h2, noneD_shaped (repr_plain hp), noneD_shaped (repr_plain hp), _, rfl, ?_⟩
    rw [noneD_self]
    exact iteF (k _ (s1.trans s2))
end
end TS
namespace TS
open PySem L2
/-! text * number -/
def timesS (z : Str) (n : Nat) : Str := { cps := List.foldl (fun a b => a ++ b) #[] (List.replicate n z.cps) }
theorem fold_app : ∀ (l : List (Array Nat)) (a : Array Nat), (l.foldl (fun a b => a ++ b) a).toList = a.toList ++ (l.map Array.toList).flatten
  | [], a => by simp
  | b :: l, a => by
    rw [List.foldl_cons, fold_app l]
    simp
theorem times_codes (z : Str) (n : Nat) : (timesS z n).cps.toList = (List.replicate n z.cps.toList).flatten := by
  show (List.foldl (fun a b => a ++ b) #[] (List.replicate n z.cps)).toList = _
  rw [fold_app]
  simp
theorem times_len (z : Str) (n : Nat) : (timesS z n).length = n * z.length := by
  rw [← len_codes, times_codes, ← len_codes z]
  simp
def rMulS : R2 := fun x y H Q => ∃ (z : Str) (k : Int), x = .str z ∧ y = .int k ∧ 2 ≤ k ∧ k ≤ 100000 ∧ 0 < z.length ∧ z.length ≤ 100 ∧ Q (.str (timesS z k.toNat)) H
theorem op_mulS {X : Cx} : OpR X (binaryOp .Mult) rMulS := by
  intro pins s σ H x y v u Q I rx ry h
  obtain ⟨z, k, rfl, rfl, k2, kb, z0, zb, q⟩ := h
  obtain ⟨t1, rfl⟩ := rx
  obtain ⟨t2, rfl⟩ := ry
  have e1 : (k == 1 || z.length == 0) = false := by
    rw [Bool.or_eq_false_iff]
    exact ⟨by simp; omega, by simp; omega⟩
  have hm : z.length * k.toNat ≤ 10000000 := by
    have h1 : k.toNat ≤ 100000 := by omega
    calc z.length * k.toNat ≤ 100 * 100000 := Nat.mul_le_mul zb h1
      _ = 10000000 := rfl
  have hl : (timesS z k.toNat).length ≤ sizeLine := by
    rw [times_len, sizeLine_eq, Nat.mul_comm]
    omega
  refine P.mul_str ?_ (fun _ _ => ?_) (fun _ _ => ?_) ?_
  · rw [Bool.or_eq_false_iff]
    exact ⟨decide_eq_false (by omega), decide_eq_false (by omega)⟩
  · have : (100 : Int) ≤ (2 ^ 63 - 1) / k := by
      rw [Int.le_ediv_iff_mul_le (by omega)]
      omega
    omega
  · unfold Builtin.Str.tooLong
    refine decide_eq_false ?_
    rw [sizeLine_eq]
    omega
  · rw [if_neg (by omega), e1]
    exact ⟨hl, .str (timesS z k.toNat), H, I.tok _, ⟨_, rfl⟩, q⟩
end TS
namespace TS
open PySem L2
section
variable {P : Program} {w : World} {K : PySem.W.Frag} {mg : Str → Option Value} {base : Heap}
variable {f C a : Addr} {cdv : Value} {A : Around} {outer : List Env} {s : Shared} {H0 : Hp} {E : XK}
/-- if _law_told(thing) != ['none', repr(thing), True]: return False -/
theorem b_none (hr : Room 14 (lawX P w K mg base f cdv A outer s H0 E).A) (hG : (lawX P w K mg base f cdv A outer s H0 E).A.guards = some []) (mr : mg "repr" = none) (D1 : HasG P w K mg base "_law_told" 14 ["thing"] (spTold K C)) :
    ∃ t, PS (lawX P w K mg base f cdv A outer s H0 E) ((forBody (bLaw.getD 8 noStmt)).getD 0 noStmt) t ∧ PS (lawX P w K mg base f cdv A outer s H0 E) ((forBody (bLaw.getD 9 noStmt)).getD 0 noStmt) t ∧
      ∀ (D : Ends) (σ : St) (H : Hp) (x : V) (r : Str), σ[9]? = some (some x) → NoTree K C H x → Rep K H x r → Plain r → (∀ H', Same H H' → D.nx σ H') → t D σ H := by
  obtain ⟨f1, fd1, m1, k1, b1, G1⟩ := D1
  have hu : (lawX P w K mg base f cdv A outer s H0 E).A.units + 64 < cLine := by
    have := hr.un
    omega
  refine ⟨_, ps_if (pt_cmpR (op_neD hr.units) (pe_callG (E := E0) G1 hG hr rfl m1 k1 b1 (pa_cons (pv 9) pa_nil)) (pe_lst (pa_cons pe_str (pa_cons (pe_callB (call_reprX hG hu) (by rfl) mr (by decide +kernel) (pa_cons (pv 9) pa_nil)) (pa_cons pe_bl pa_nil)))) (nomark _)) (pss_one (ps_ret pe_bl)) pss_nil,
    ps_if (pt_cmpR (op_neD hr.units) (pe_callG (E := E0) G1 hG hr rfl m1 k1 b1 (pa_cons (pv 9) pa_nil)) (pe_lst (pa_cons pe_str (pa_cons (pe_callB (call_reprX hG hu) (by rfl) mr (by decide +kernel) (pa_cons (pv 9) pa_nil)) (pa_cons pe_bl pa_nil)))) (nomark _)) (pss_one (ps_ret pe_bl)) pss_nil,
    fun D σ H x r e hn hR hp k => ?_⟩
  refine ⟨_, e, x, rfl, .inr ⟨hn, r, hR, fun H1 l1 s1 h1 => ?_⟩⟩
  refine ⟨_, e, x, r, rfl, hR.same s1, by show 3 ≤ sizeLine; decide, fun l2 hl2 => ?_⟩
  have s2 : Same H1 (upd H1 l2 (.lst [.str "none", .str r, .bl true])) := same_upd hl2 _
  refine ⟨noneD r, noneD r, noneD_dp (s2 _ _ h1), noneD_dp upd_same, noneD_shaped hp, noneD_shaped hp, _, rfl, ?_⟩
  rw [noneD_self]
  exact iteF (k _ (s1.trans s2))
structure G2 where
  lo : Addr
  kk : V
  p : V
  pw : V
  text : V
  four : V
  deep : V
  B : Hp
def Sg (a : Addr) (g : G2) (σ : St) (H : Hp) : Prop := (∃ j8 j9 j10 j11 : Option V, σ = [some (.ref a), some (.ref g.lo), some g.kk, some g.p, some g.pw, some g.text, some g.four, some g.deep, j8, j9, j10, j11]) ∧ Same g.B H
def Sn (a : Addr) (n : Nat) (g : G2) (σ : St) (H : Hp) : Prop := (∃ (j8 j9 j11 : Option V) (z : Str), σ = [some (.ref a), some (.ref g.lo), some g.kk, some g.p, some g.pw, some g.text, some g.four, some g.deep, j8, j9, some (.str z), j11] ∧ Wrapped n z) ∧ Same g.B H
theorem b_nest0 : Stm (lawX P w K mg base f cdv A outer s H0 E) (bLaw.getD 6 noStmt) (Sg a) (Sn a 0) := by
  refine ⟨_, ps_set (i := 10) scLaw.nd rfl (.inl rfl) pe_str, fun g D σ H h k => ?_⟩
  obtain ⟨⟨j8, j9, j10, j11, rfl⟩, s0⟩ := h
  exact k _ _ ⟨⟨_, _, _, "a", rfl, .zero⟩, s0⟩
theorem b_nest (U : BltU mg) : Stm (lawX P w K mg base f cdv A outer s H0 E) (bLaw.getD 7 noStmt) (Sn a 0) (Sn a 1100) := by
  refine ⟨_, ps_for PassesOwn.never rfl (pi_range1 rfl U.range (pa_cons pe_int pa_nil)) (pg_name (i := 8) scLaw.nd rfl (.inl rfl))
    (pss_one (ps_set (i := 10) scLaw.nd rfl (.inl rfl) (pe_op op_add_str (pe_op op_add_str pe_str (pv 10)) pe_str))), fun g D σ H h k => ?_⟩
  refine ⟨1100, rfl, by decide, by decide, for_range (lo := 0) (fun i σ' H' => Sn a i g σ' H') h ?_ (fun σ' H' h => k _ _ h)⟩
  rintro i σ' H' hi ⟨⟨j8, j9, j11, z, rfl, hz⟩, s0⟩
  have sm : ∀ {n : Nat}, n ≤ 20000 → n ≤ sizeLine := fun h => Nat.le_trans h (by decide)
  have hi' : i < 1100 := hi
  have l1 : ("(" : Str).length = 1 := by decide +kernel
  have l7 : ("=a?b:c)" : Str).length = 7 := by decide +kernel
  refine ⟨_, rfl, _, _, rfl, rfl, sm (by rw [l1, hz.len]; omega), _, _, rfl, rfl, sm (by rw [Str.length_append, l1, l7, hz.len]; omega), ?_⟩
  exact ⟨⟨_, _, _, _, rfl, hz.succ⟩, s0⟩
theorem plain_of {x : Str} (h : x.cps.toList.all (fun c => decide (c < 128)) = true) : Plain x := fun c hc => of_decide_eq_true (List.all_eq_true.mp h c hc)
/-- for thing in ['(' * 3000, nested] -/
theorem b_long (hr : Room 14 (lawX P w K mg base f cdv A outer s H0 E).A) (hG : (lawX P w K mg base f cdv A outer s H0 E).A.guards = some []) (mr : mg "repr" = none) (D1 : HasG P w K mg base "_law_told" 14 ["thing"] (spTold K C)) :
    Stm (lawX P w K mg base f cdv A outer s H0 E) (bLaw.getD 8 noStmt) (Sn a 1100) (Sg a) := by
  obtain ⟨tb, hb, _, rb⟩ := b_none (f := f) (cdv := cdv) (A := A) (outer := outer) (s := s) (H0 := H0) (E := E) (C := C) hr hG mr D1
  refine ⟨_, ps_for PassesOwn.never rfl (pi_list (pe_lst (pa_cons (pe_op op_mulS pe_str pe_int) (pa_cons (pv 10) pa_nil)))) (pg_name (i := 9) scLaw.nd rfl (.inl rfl)) (pss_one hb), fun g D σ H h k => ?_⟩
  obtain ⟨⟨j8, j9, j11, z, rfl, hz⟩, s0⟩ := h
  refine ⟨_, _, rfl, rfl, by decide, by decide, by decide +kernel, by decide +kernel, _, rfl, by show 2 ≤ sizeLine; decide, fun L hL => ?_⟩
  rw [show Int.toNat 3000 = 3000 from rfl]
  have g1 : Same H (upd H L (.lst [.str (timesS "(" 3000), .str z])) := same_upd hL _
  have v1 : (upd H L (.lst [.str (timesS "(" 3000), .str z])) L = some (.lst [.str (timesS "(" 3000), .str z]) := upd_same
  have e1 : ("(" : Str).cps.toList = [40] := by decide +kernel
  have tc : (timesS "(" 3000).cps.toList = List.replicate 3000 40 := by
    rw [times_codes, e1]
    exact List.flatten_replicate_singleton
  have tl : (timesS "(" 3000).length = 3000 := by
    rw [times_len]
    have : ("(" : Str).length = 1 := by decide +kernel
    rw [this]
  have tp : Plain (timesS "(" 3000) := fun c hc => by
    rw [tc] at hc
    have := List.eq_of_mem_replicate hc
    omega
  have tn : treeOf (timesS "(" 3000) = none := treeOf_open (by rw [tc]; rfl) (by rw [tc]; rfl) (by rw [tc]; rfl)
  generalize upd H L (.lst [.str (timesS "(" 3000), .str z]) = H1 at g1 v1
  refine ⟨L, rfl, ⟨_, SqL.of v1⟩, for_list (K := K) (a := L) (xs := [.str (timesS "(" 3000), .str z]) (fun i σ' H' => Same H1 H' ∧ Sg a g σ' H') ⟨Same.refl _, ⟨_, _, _, _, rfl⟩, s0.trans g1⟩ (fun i σ' H' _ h => SqL.of (h.1 _ _ v1)) ?_ (fun σ' H' h => k _ _ h.2)⟩
  rintro i x σ' H' hx ⟨s1, ⟨j8, j9, j10, j11, rfl⟩, s2⟩
  have all : ∀ y ∈ [V.str (timesS "(" 3000), .str z], ∃ q : Str, y = .str q ∧ Plain q ∧ q.length ≤ 10000 ∧ treeOf q = none := fun y hy => by
    simp only [List.mem_cons, List.not_mem_nil, or_false] at hy
    rcases hy with rfl | rfl
    · exact ⟨_, rfl, tp, by rw [tl]; decide, tn⟩
    · exact ⟨_, rfl, hz.pl, by rw [hz.len]; decide, hz.none (by decide)⟩
  obtain ⟨q, rfl, qp, ql, qn⟩ := all x (List.mem_of_getElem? hx)
  have rp : Rep K H' (.str q) (reprText q) := by
    refine .str ?_
    have := StrLaws.reprText_len q fun c hc => by
      have := qp c hc
      have e : (16 : Nat) ^ 8 = 4294967296 := by decide
      omega
    rw [sizeLine_eq]
    omega
  exact rb _ _ _ (.str q) _ rfl (.inl ⟨q, rfl, by omega, qn⟩) rp (repr_plain qp) fun H2 s3 => ⟨s1.trans s3, ⟨_, _, _, _, rfl⟩, s2.trans s3⟩
end
end TS
namespace TS
open PySem L2
/-- what is none of a Term -/
structure NoT (K : PySem.W.Frag) (C : Addr) : Prop where
  non : PySem.W.kitOne K (.type "NoneType") (.ref C) = some false
  lst : PySem.W.kitOne K (.type "list") (.ref C) = some false
  dct : PySem.W.kitOne K (.type "dict") (.ref C) = some false
  bool : PySem.W.kitOne K (.type "bool") (.ref C) = some false
section
variable {P : Program} {w : World} {K : PySem.W.Frag} {mg : Str → Option Value} {base : Heap}
variable {f C a : Addr} {cdv : Value} {A : Around} {outer : List Env} {s : Shared} {H0 : Hp} {E : XK}
theorem b_odd (hr : Room 14 (lawX P w K mg base f cdv A outer s H0 E).A) (hG : (lawX P w K mg base f cdv A outer s H0 E).A.guards = some []) (mr : mg "repr" = none) (TK : TermK K mg C) (NT : NoT K C) (D1 : HasG P w K mg base "_law_told" 14 ["thing"] (spTold K C)) :
    Stm (lawX P w K mg base f cdv A outer s H0 E) (bLaw.getD 9 noStmt) (Sg a) (Sg a) := by
  obtain ⟨tb, _, hb, rb⟩ := b_none (f := f) (cdv := cdv) (A := A) (outer := outer) (s := s) (H0 := H0) (E := E) (C := C) hr hG mr D1
  refine ⟨_, ps_for PassesOwn.never rfl (pi_list (pe_lst (pa_cons pe_non (pa_cons pe_bl (pa_cons pe_bl (pa_cons (pe_un un_neg pe_int) (pa_cons pe_int (pa_cons (pe_op op_pow pe_int pe_int) (pa_cons (pe_lst (pa_cons pe_str pa_nil)) (pa_cons (pe_tup (pa_cons pe_str (pa_cons pe_str (pa_cons pe_int (pa_cons pe_int pa_nil))))) (pa_cons pe_dnewK pa_nil))))))))))) (pg_name (i := 9) scLaw.nd rfl (.inl rfl)) (pss_one hb), fun g D σ H h k => ?_⟩
  obtain ⟨⟨j8, j9, j10, j11, rfl⟩, s0⟩ := h
  refine ⟨_, rfl, _, _, rfl, rfl, ⟨by decide, by decide, by decide⟩, by show 1 ≤ sizeLine; decide, fun l hl => ?_⟩
  have g1 : Same H (upd H l (.lst [.str "a"])) := same_upd hl _
  have v1 : (upd H l (.lst [.str "a"])) l = some (.lst [.str "a"]) := upd_same
  generalize upd H l (.lst [.str "a"]) = H1 at g1 v1
  refine ⟨by show 4 ≤ sizeLine; decide, fun tp htp => ?_⟩
  have g2 : Same H1 (upd H1 tp (.tup [.str "a", .str "b", .int 0, .int 1])) := same_upd htp _
  have v2 : (upd H1 tp (.tup [.str "a", .str "b", .int 0, .int 1])) tp = some (.tup [.str "a", .str "b", .int 0, .int 1]) := upd_same
  generalize upd H1 tp (.tup [.str "a", .str "b", .int 0, .int 1]) = H2 at g2 v2
  intro d hd
  have g3 : Same H2 (upd H2 d (.dK [])) := same_upd hd _
  have v3 : (upd H2 d (.dK [])) d = some (.dK []) := upd_same
  generalize upd H2 d (.dK []) = H3 at g3 v3
  refine ⟨by show 9 ≤ sizeLine; decide, fun L hL => ?_⟩
  have e30 : (10 : Int) ^ Int.toNat 30 = 1000000000000000000000000000000 := by decide +kernel
  rw [show (fun i j : Int => V.int (i ^ j.toNat)) 10 30 = V.int 1000000000000000000000000000000 from congrArg V.int e30, show (fun i : Int => V.int (-i)) 1 = V.int (-1) from rfl]
  have g4 : Same H3 (upd H3 L (.lst [.non, .bl true, .bl false, .int (-1), .int 10, .int 1000000000000000000000000000000, .ref l, .ref tp, .ref d])) := same_upd hL _
  have v4 : (upd H3 L (.lst [.non, .bl true, .bl false, .int (-1), .int 10, .int 1000000000000000000000000000000, .ref l, .ref tp, .ref d])) L = some (.lst [.non, .bl true, .bl false, .int (-1), .int 10, .int 1000000000000000000000000000000, .ref l, .ref tp, .ref d]) := upd_same
  generalize upd H3 L (.lst [.non, .bl true, .bl false, .int (-1), .int 10, .int 1000000000000000000000000000000, .ref l, .ref tp, .ref d]) = H4 at g4 v4
  have w1 := g4 _ _ (g3 _ _ (g2 _ _ v1))
  have w2 := g4 _ _ (g3 _ _ v2)
  have w3 := g4 _ _ v3
  have g14 := ((g1.trans g2).trans g3).trans g4
  have all : ∀ H5, Same H4 H5 → ∀ x ∈ [V.non, .bl true, .bl false, .int (-1), .int 10, .int 1000000000000000000000000000000, .ref l, .ref tp, .ref d], ∃ r, NoTree K C H5 x ∧ Rep K H5 x r ∧ Plain r := fun H5 s5 x hx => by
    simp only [List.mem_cons, List.not_mem_nil, or_false] at hx
    rcases hx with rfl | rfl | rfl | rfl | rfl | rfl | rfl | rfl | rfl
    · exact ⟨_, .inr ⟨_, false, false, .base .non, NT.non, kit_ty (by decide +kernel), kit_ty (by decide +kernel), kit_ty (by decide +kernel), .inr rfl⟩, .non, plain_of (by decide +kernel)⟩
    · exact ⟨_, .inr ⟨_, true, true, .base (.bl true), NT.bool, kit_ty (by decide +kernel), kit_ty (by decide +kernel), kit_ty (by decide +kernel), .inr rfl⟩, .bl true, plain_of (by decide +kernel)⟩
    · exact ⟨_, .inr ⟨_, true, true, .base (.bl false), NT.bool, kit_ty (by decide +kernel), kit_ty (by decide +kernel), kit_ty (by decide +kernel), .inr rfl⟩, .bl false, plain_of (by decide +kernel)⟩
    · exact ⟨_, .inr ⟨_, true, false, .base (.int _), TK.kInt, kit_ty (by decide +kernel), kit_ty (by decide +kernel), kit_ty (by decide +kernel), .inl ⟨rfl, _, rfl, by decide⟩⟩, .int (by decide +kernel), plain_of (by decide +kernel)⟩
    · exact ⟨_, .inr ⟨_, true, false, .base (.int _), TK.kInt, kit_ty (by decide +kernel), kit_ty (by decide +kernel), kit_ty (by decide +kernel), .inl ⟨rfl, _, rfl, by decide⟩⟩, .int (by decide +kernel), plain_of (by decide +kernel)⟩
    · exact ⟨_, .inr ⟨_, true, false, .base (.int _), TK.kInt, kit_ty (by decide +kernel), kit_ty (by decide +kernel), kit_ty (by decide +kernel), .inl ⟨rfl, _, rfl, by decide⟩⟩, .int (by decide +kernel), plain_of (by decide +kernel)⟩
    · exact ⟨_, .inr ⟨_, false, false, .base (.lst (s5 _ _ w1)), NT.lst, kit_ty (by decide +kernel), kit_ty (by decide +kernel), kit_ty (by decide +kernel), .inr rfl⟩, (.dat (dt := .list [.str "a"]) (.lst (SqL.of (s5 _ _ w1)) (.cons (.str _) .nil)) (by decide +kernel) (by decide +kernel) (by decide +kernel) (by decide +kernel)), plain_of (by decide +kernel)⟩
    · exact ⟨_, .inr ⟨_, false, false, .base (.tup (s5 _ _ w2)), TK.kTup, kit_ty (by decide +kernel), kit_ty (by decide +kernel), kit_ty (by decide +kernel), .inr rfl⟩, (.dat (dt := .tuple [.str "a", .str "b", .int 0, .int 1]) (.tup (SqT.of (s5 _ _ w2)) (.cons (.str _) (.cons (.str _) (.cons (.int _) (.cons (.int _) .nil))))) (by decide +kernel) (by decide +kernel) (by decide +kernel) (by decide +kernel)), plain_of (by decide +kernel)⟩
    · exact ⟨_, .inr ⟨_, false, false, .base (.dK (s5 _ _ w3)), NT.dct, kit_ty (by decide +kernel), kit_ty (by decide +kernel), kit_ty (by decide +kernel), .inr rfl⟩, .emp (s5 _ _ w3), plain_of (by decide +kernel)⟩
  refine ⟨L, rfl, ⟨_, SqL.of v4⟩, for_list (K := K) (a := L) (xs := [.non, .bl true, .bl false, .int (-1), .int 10, .int 1000000000000000000000000000000, .ref l, .ref tp, .ref d]) (fun i σ' H' => Same H4 H' ∧ Sg a g σ' H') ⟨Same.refl _, ⟨_, _, _, _, rfl⟩, s0.trans g14⟩ (fun i σ' H' _ h => SqL.of (h.1 _ _ v4)) ?_ (fun σ' H' h => k _ _ h.2)⟩
  rintro i x σ' H' hx ⟨s1, ⟨j8, j9, j10, j11, rfl⟩, s2⟩
  obtain ⟨r, h1, h2, h3⟩ := all H' s1 x (List.mem_of_getElem? hx)
  exact rb _ _ _ x r rfl h1 h2 h3 fun H2 s3 => ⟨s1.trans s3, ⟨_, _, _, _, rfl⟩, s2.trans s3⟩
end
end TS
namespace TS
open PySem L2
section
variable {P : Program} {w : World} {K : PySem.W.Frag} {mg : Str → Option Value} {base : Heap}
variable {f C a : Addr} {cdv : Value} {A : Around} {outer : List Env} {s : Shared} {H0 : Hp} {E : XK}
theorem b_digit (hr : Room 14 (lawX P w K mg base f cdv A outer s H0 E).A) (hG : (lawX P w K mg base f cdv A outer s H0 E).A.guards = some []) (T : BltT mg) (U : BltU mg) (D1 : HasG P w K mg base "_law_told" 14 ["thing"] (spTold K C)) :
    Stm (lawX P w K mg base f cdv A outer s H0 E) (bLaw.getD 10 noStmt) (Sg a) (Sg a) := by
  obtain ⟨f1, fd1, m1, k1, b1, G1⟩ := D1
  refine ⟨_, ps_for PassesOwn.never rfl (pi_range1 rfl U.range (pa_cons pe_int pa_nil)) (pg_name (i := 11) scLaw.nd rfl (.inl rfl))
    (pss_one (ps_if (pt_cmpR (op_neD hr.units) (pe_callG (E := E0) G1 hG hr rfl m1 k1 b1 (pa_cons (pv 11) pa_nil)) (pe_lst (pa_cons pe_str (pa_cons (pe_callTy (cr_or call_str_int SkE.call_str_str) (by rfl) T.str (by decide +kernel) (pa_cons (pv 11) pa_nil)) pa_nil))) (nomark _)) (pss_one (ps_ret pe_bl)) pss_nil)), fun g D σ H h k => ?_⟩
  refine ⟨10, rfl, by decide, by decide, for_range (lo := 0) (fun i σ' H' => Sg a g σ' H') h ?_ (fun σ' H' h => k _ _ h)⟩
  rintro i σ' H' hi ⟨⟨j8, j9, j10, j11, rfl⟩, s0⟩
  have hi' : i < 10 := hi
  have n0 : (0 : Int) ≤ 0 + (i : Int) := by omega
  have n9 : (0 : Int) + (i : Int) ≤ 9 := by omega
  have pl : Plain (Tr.num (0 + (i : Int))).text := plain_text (t := .num (0 + (i : Int))) ⟨n0, n9⟩
  refine ⟨_, rfl, .int (0 + (i : Int)), rfl, .inl ⟨.num (0 + (i : Int)), .inr (.inl ⟨_, rfl, rfl⟩), ⟨n0, n9⟩, by show 1 ≤ 3; decide, fun H1 l1 s1 h1 => ?_⟩⟩
  refine ⟨_, rfl, .inl ⟨_, rfl, ?_, by show 2 ≤ sizeLine; decide, fun l2 hl2 => ?_⟩⟩
  · have := small_log (n := 0 + (i : Int)) (by omega)
    omega
  have s2 : Same H1 (upd H1 l2 (.lst [.str "term", .str (Tr.num (0 + (i : Int))).text])) := same_upd hl2 _
  refine ⟨termD (Tr.num (0 + (i : Int))).text, termD (Tr.num (0 + (i : Int))).text, termD_dp (s2 _ _ h1), termD_dp upd_same, termD_shaped pl, termD_shaped pl, _, rfl, ?_⟩
  rw [termD_self]
  exact iteF ⟨⟨_, _, _, _, rfl⟩, (s0.trans s1).trans s2⟩
theorem text_most : ∀ (n : Nat) (t : Tr), t.fine → t.deep ≤ n + 1 → t.text.length ≤ 8 * 4 ^ n + 5 * ((4 ^ n - 1) / 3)
  | n, .num k, h, _ => by
    have e : (Tr.num k).text.cps.toList = [48 + k.toNat] := codes_digit h.1 h.2
    have e2 : (Tr.num k).text.length = 1 := by
      rw [← len_codes, e]
      rfl
    have p : 1 ≤ 4 ^ n := Nat.pow_pos (by decide)
    omega
  | n, .wd x, h, _ => by
    have p : 1 ≤ 4 ^ n := Nat.pow_pos (by decide)
    have := h.2.1
    have e : (Tr.wd x).text.length = x.length := rfl
    omega
  | 0, .ch a b c d, _, h => by
    have := a.deep_pos
    simp only [Tr.deep] at h
    omega
  | n + 1, .ch a b c d, h, hd => by
    simp only [Tr.deep] at hd
    have h1 := text_most n a h.1 (by omega)
    have h2 := text_most n b h.2.1 (by omega)
    have h3 := text_most n c h.2.2.1 (by omega)
    have h4 := text_most n d h.2.2.2 (by omega)
    have e : (Tr.ch a b c d).text.length = a.text.length + b.text.length + c.text.length + d.text.length + 5 := by
      rw [← len_codes, codes_ch]
      simp only [List.length_cons, List.length_append, List.length_nil, len_codes]
      omega
    have p : 1 ≤ 4 ^ n := Nat.pow_pos (by decide)
    rw [e, Nat.pow_succ]
    omega
theorem text153 {t : Tr} (h : t.fine) (hd : t.deep ≤ 3) : t.text.length ≤ 153 := by
  have := text_most 2 t h hd
  have e : (4 : Nat) ^ 2 = 16 := by decide
  rw [e] at this
  omega
structure G3 where
  lo : Addr
  kk : V
  p : Addr
  pw : V
  t1 : Str
  t2 : Str
  t3 : Str
  B : Hp
  os : List Str
abbrev G3.to2 (g : G3) : G2 := ⟨g.lo, g.kk, .ref g.p, g.pw, .str g.t1, .str g.t2, .str g.t3, g.B⟩
structure G3.Ok (g : G3) : Prop where
  np : g.B g.p = none
  lo : g.B g.lo = some (.lst (g.os.map V.str))
  os : ∀ z ∈ g.os, Plain z ∧ z.length < 162
  ol : g.os.length ≤ 100
  p1 : Plain g.t1
  p2 : Plain g.t2
  p3 : Plain g.t3
  l1 : g.t1.length ≤ 153
  l2 : g.t2.length ≤ 153
  l3 : g.t3.length ≤ 161
theorem b_dues (hr : Room 163 (lawX P w K mg base f cdv A outer s H0 E).A) (hG : (lawX P w K mg base f cdv A outer s H0 E).A.guards = some []) (U : BltU mg) (D1 : HasG P w K mg base "_law_told" 14 ["thing"] (spTold K C)) (D2 : HasG P w K mg base "_law_due" 163 ["text"] (spDue 162)) (D3 : Has P w K mg base "_law_bent" 3 ["pool", "text"] spBent) :
    Stm (lawX P w K mg base f cdv A outer s H0 E) (bLaw.getD 5 noStmt) (fun (g : G3) σ H => Sg a g.to2 σ H ∧ PoolAt H g.p ∧ g.Ok) (fun g σ H => Sg a g.to2 σ H) := by
  obtain ⟨tb, hb, rb⟩ := b_due (f := f) (cdv := cdv) (A := A) (outer := outer) (s := s) (H0 := H0) (E := E) (C := C) (R := 162) hr (by decide) (by decide) hG D1 D2
  obtain ⟨f3, fd3, m3, k3, b3, GB⟩ := D3
  have r3 : Room 3 (lawX P w K mg base f cdv A outer s H0 E).A := hr.mono (by decide)
  refine ⟨_, ps_for PassesOwn.never rfl (pi_list (pe_op op_cat (pe_op op_cat (pe_lst (pa_cons (pv 5) (pa_cons (pv 6) (pa_cons (pv 7) (pa_cons (pe_op op_add_str (pe_op op_add_str pe_str (pv 5)) pe_str) pa_nil))))) (pv 1))
      (pe_lc (own := [("turn", 8)]) (g := gName 8) (tt := tYes) (by rfl) scLaw.nd (pi_range1 rfl U.range (pa_cons pe_int pa_nil)) (blkOk_by (own := [("turn", 8)]) (N := nmLaw) (sc := defScope sLaw) (by decide +kernel)) (fun _ _ _ _ _ => pg_name (i := 8) scLaw.nd rfl (Or.inl rfl)) (fun _ _ _ _ _ => pts_nil)
        (fun _ _ _ _ _ => pe_call GB r3 rfl m3 k3 b3 .nil pass0 (pa_cons (pv 3) (pa_cons (pv 5) pa_nil)))))) (pg_name (i := 9) scLaw.nd rfl (.inl rfl)) (pss_one hb), fun g D σ H h k => ?_⟩
  obtain ⟨⟨⟨j8, j9, j10, j11, rfl⟩, s0⟩, hp, ok⟩ := h
  have sm : ∀ {n : Nat}, n ≤ 20000 → n ≤ sizeLine := fun h => Nat.le_trans h (by decide)
  have a1 : ("(a=b?" : Str).length = 5 := by decide +kernel
  have a2 : (":1)" : Str).length = 3 := by decide +kernel
  have q1 := ok.l1
  refine ⟨_, rfl, _, rfl, _, rfl, _, rfl, _, _, rfl, rfl, sm (by rw [a1]; omega), _, _, rfl, rfl, sm (by rw [Str.length_append, a1, a2]; omega), by show 4 ≤ sizeLine; decide, fun l1 hl1 => ?_⟩
  have g1 : Same H (upd H l1 (.lst [.str g.t1, .str g.t2, .str g.t3, .str ("(a=b?" ++ g.t1 ++ ":1)")])) := same_upd hl1 _
  have v1 : (upd H l1 (.lst [.str g.t1, .str g.t2, .str g.t3, .str ("(a=b?" ++ g.t1 ++ ":1)")])) l1 = some (.lst [.str g.t1, .str g.t2, .str g.t3, .str ("(a=b?" ++ g.t1 ++ ":1)")]) := upd_same
  generalize upd H l1 (.lst [.str g.t1, .str g.t2, .str g.t3, .str ("(a=b?" ++ g.t1 ++ ":1)")]) = H1 at g1 v1
  refine ⟨_, rfl, l1, g.lo, _, _, rfl, rfl, v1, g1 _ _ (s0 _ _ ok.lo), sm (by have := ok.ol; simp only [List.length_cons, List.length_nil, List.length_map]; omega), fun l2 hl2 => ?_⟩
  have all12 : ∀ x ∈ ([V.str g.t1, .str g.t2, .str g.t3, .str ("(a=b?" ++ g.t1 ++ ":1)")] ++ g.os.map V.str), ∃ z : Str, x = .str z ∧ Plain z ∧ z.length < 162 := fun x hx => by
    rcases List.mem_append.mp hx with hx | hx
    · simp only [List.mem_cons, List.not_mem_nil, or_false] at hx
      rcases hx with rfl | rfl | rfl | rfl
      · exact ⟨_, rfl, ok.p1, by have := ok.l1; omega⟩
      · exact ⟨_, rfl, ok.p2, by have := ok.l2; omega⟩
      · exact ⟨_, rfl, ok.p3, by have := ok.l3; omega⟩
      · exact ⟨_, rfl, app_plain (app_plain (plain_of (by decide +kernel)) ok.p1) (plain_of (by decide +kernel)), by rw [Str.length_append, Str.length_append, a1, a2]; omega⟩
    · obtain ⟨z, hz, rfl⟩ := List.mem_map.mp hx
      exact ⟨z, rfl, ok.os z hz⟩
  have n12 : ([V.str g.t1, .str g.t2, .str g.t3, .str ("(a=b?" ++ g.t1 ++ ":1)")] ++ g.os.map V.str).length ≤ 104 := by
    have := ok.ol
    rw [List.length_append]
    simp only [List.length_cons, List.length_nil, List.length_map]
    omega
  generalize [V.str g.t1, .str g.t2, .str g.t3, .str ("(a=b?" ++ g.t1 ++ ":1)")] ++ g.os.map V.str = xs at all12 n12
  have g2 : Same H1 (upd H1 l2 (.lst xs)) := same_upd hl2 _
  have v2 : (upd H1 l2 (.lst xs)) l2 = some (.lst xs) := upd_same
  generalize upd H1 l2 (.lst xs) = H2 at g2 v2
  have g12 := g1.trans g2
  have hp2 : PoolAt H2 g.p := hp.same g12
  have n2 : l2 ≠ g.p := (hp.same g1).ne hl2
  refine ⟨16, rfl, by decide, by decide, fun Dl hD => lc_poolR (R := fun _ _ v => ∃ y : Str, v = .str y ∧ Plain y ∧ y.length ≤ g.t1.length + 1) hp2 hD (by decide) (fun _ => rfl) (fun i H3 R hi s3 hL hR => ?_) (fun H3 ys s3 d3 l3 hR => ?_)⟩
  · exact ⟨_, rfl, _, rfl, g.p, g.t1, rfl, s3.2, ok.p1, by omega, fun H4 y s4 py ly => hR _ H4 s4 fun H5 s5 => ⟨y, rfl, py, ly⟩⟩
  have ally : ∀ x ∈ ys, ∃ z : Str, x = .str z ∧ Plain z ∧ z.length < 162 := fun x hx => by
    obtain ⟨j, hj, e⟩ := List.getElem_of_mem hx
    obtain ⟨y, e2, py, ly⟩ := hR j x (by rw [← e]; exact List.getElem?_eq_getElem hj)
    exact ⟨y, e2, py, by omega⟩
  refine ⟨l2, Dl, xs, ys, rfl, rfl, s3.1 _ _ v2 (by simpa using n2), d3, sm (by omega), fun L hL => ?_⟩
  have s4 : Same H3 (upd H3 L (.lst (xs ++ ys))) := same_upd hL _
  have v4 : (upd H3 L (.lst (xs ++ ys))) L = some (.lst (xs ++ ys)) := upd_same
  generalize upd H3 L (.lst (xs ++ ys)) = H4 at s4 v4
  have sB : Same g.B H4 := fun b o e => s4 _ _ (s3.1 b o (g12 b o (s0 b o e)) (by simpa using ne_of_none e ok.np))
  refine ⟨L, rfl, ⟨_, SqL.of v4⟩, for_list (K := K) (a := L) (xs := xs ++ ys) (fun i σ' H' => Same H4 H' ∧ Sg a g.to2 σ' H') ⟨Same.refl _, ⟨_, _, _, _, rfl⟩, sB⟩ (fun i σ' H' _ h => SqL.of (h.1 _ _ v4)) ?_ (fun σ' H' h => k _ _ h.2)⟩
  rintro i x σ' H' hx ⟨s5, ⟨j8, j9, j10, j11, rfl⟩, s6⟩
  obtain ⟨z, rfl, pz, lz⟩ : ∃ z : Str, x = .str z ∧ Plain z ∧ z.length < 162 := by
    rcases List.mem_append.mp (List.mem_of_getElem? hx) with h | h
    · exact all12 x h
    · exact ally x h
  exact rb _ _ _ z rfl pz lz fun H7 s7 => ⟨s5.trans s7, ⟨_, _, _, _, rfl⟩, s6.trans s7⟩
end
end TS
namespace TS
open PySem L2
abbrev oddS : List Str := ["", " ", "a ", " a", "A", "ab1", "1a", "10", "00", "-1", "abcdefghi", "abcdefgh", "(a=b?c:d", "a=b?c:d", "(a=b?c:d))", "((a=b?c:d))", "(a = b?c:d)", "(a=b:c?d)", "(a=b?c)", "()", "(a=b?c:)", "(=b?c:d)", "(a=b?c:d)e", "(1=1?1:1)"]
theorem odd_all : oddS.all (fun z => z.cps.toList.all (fun c => decide (c < 128)) && decide (z.length < 162)) = true := by decide +kernel
theorem odd_ok : ∀ z ∈ oddS, Plain z ∧ z.length < 162 := fun z hz => by
  have h := List.all_eq_true.mp odd_all z hz
  rw [Bool.and_eq_true] at h
  exact ⟨plain_of h.1, of_decide_eq_true h.2⟩
section
variable {P : Program} {w : World} {K : PySem.W.Frag} {mg : Str → Option Value} {base : Heap}
structure LawD (P : Program) (w : World) (K : PySem.W.Frag) (mg : Str → Option Value) (base : Heap) (C : Addr) : Prop where
  T : BltT mg
  U : BltU mg
  mr : mg "repr" = none
  TK : TermK K mg C
  NT : NoT K C
  told : HasG P w K mg base "_law_told" 14 ["thing"] (spTold K C)
  due : HasG P w K mg base "_law_due" 163 ["text"] (spDue 162)
  bent : Has P w K mg base "_law_bent" 3 ["pool", "text"] spBent
  lt : Has P w K mg base "_law_tree_text" 4 ["tree"] (spText 4)
  pool : Has P w K mg base "_law_pool" 1 ["script", "k"] (spPool K)
  take : Has P w K mg base "_law_take" 1 ["pool", "bound"] spTake
  words : Has P w K mg base "_law_words" 3 ["pool", "bound"] spWords
  tree : Has P w K mg base "_law_tree" 5 ["pool", "words", "digits", "deep"] (spLTree 3)
theorem rest_body {f C a : Addr} {cdv : Value} {A : Around} {outer : List Env} {s : Shared} {H0 : Hp} {E : XK} (hr : Room 163 (lawX P w K mg base f cdv A outer s H0 E).A) (hG : (lawX P w K mg base f cdv A outer s H0 E).A.guards = some []) (L : LawD P w K mg base C) :
    ∃ t, PSs (lawX P w K mg base f cdv A outer s H0 E) (bLaw.drop 5) t ∧ ∀ (g : G3) D σ H, (Sg a g.to2 σ H ∧ PoolAt H g.p ∧ g.Ok) → (∀ σ' H', Sg a g.to2 σ' H' → D.nx σ' H') → t D σ H := by
  have r14 : Room 14 (lawX P w K mg base f cdv A outer s H0 E).A := hr.mono (by decide)
  obtain ⟨t5, p5, r5⟩ := b_dues (a := a) hr hG L.U L.told L.due L.bent
  obtain ⟨t6, p6, r6⟩ : Stms (lawX P w K mg base f cdv A outer s H0 E) (bLaw.drop 6) (Sg a) (Sg a) :=
    Stms.cons b_nest0 (Stms.cons (b_nest L.U) (Stms.cons (b_long r14 hG L.mr L.told) (Stms.cons (b_odd r14 hG L.mr L.TK L.NT L.told) (Stms.one (b_digit r14 hG L.T L.U L.told)))))
  exact ⟨_, pss_cons p5 p6, fun g D σ H h k => r5 g _ σ H h fun σ1 H1 h1 => r6 g.to2 D σ1 H1 h1 k⟩
theorem ok_law {C f : Addr} {fd : FuncData} (F : Fun K "law" "law" sLaw f fd) (L : LawD P w K mg base C) : FnG P w K mg base 164 f fd ["script"] (spLaw K) := by
  refine okG F scLaw (fun vs H Q E h => ?_) (fun cdv A outer s H0 vs Q E hG hr h => ?_)
  · obtain ⟨a, ns, rfl, _⟩ := h
    rfl
  obtain ⟨a, ns, rfl, hS, hlen, q⟩ := h
  have T := L.T
  have U := L.U
  obtain ⟨tR, pR, rR⟩ := rest_body (C := C) (a := a) (f := f) (cdv := cdv) (A := _) (outer := outer) (s := s) (H0 := H0) (E := E) hr hG L
  obtain ⟨f4, fd4, m4, k4, b4, G4⟩ := L.lt
  obtain ⟨f5, fd5, m5, k5, b5, G5⟩ := L.pool
  obtain ⟨f6, fd6, m6, k6, b6, G6⟩ := L.take
  obtain ⟨f7, fd7, m7, k7, b7, G7⟩ := L.words
  obtain ⟨f8, fd8, m8, k8, b8, G8⟩ := L.tree
  have r1 : Room 1 (lawX P w K mg base f cdv A outer s H0 E).A := hr.mono (by decide)
  have r3 : Room 3 (lawX P w K mg base f cdv A outer s H0 E).A := hr.mono (by decide)
  have r4 : Room 4 (lawX P w K mg base f cdv A outer s H0 E).A := hr.mono (by decide)
  have r5 : Room 5 (lawX P w K mg base f cdv A outer s H0 E).A := hr.mono (by decide)
  refine ⟨_, pss_cons (ps_set (i := 1) scLaw.nd rfl (.inl rfl) (pe_lst (pa_cons pe_str (pa_cons pe_str (pa_cons pe_str (pa_cons pe_str (pa_cons pe_str (pa_cons pe_str (pa_cons pe_str (pa_cons pe_str (pa_cons pe_str (pa_cons pe_str (pa_cons pe_str (pa_cons pe_str (pa_cons pe_str (pa_cons pe_str pa_nil))))))))))))))))
    (pss_cons (ps_set (i := 1) scLaw.nd rfl (.inl rfl) (pe_op op_cat (pv 1) (pe_lst (pa_cons pe_str (pa_cons pe_str (pa_cons pe_str (pa_cons pe_str (pa_cons pe_str (pa_cons pe_str (pa_cons pe_str (pa_cons pe_str pa_nil)))))))))))
    (pss_cons (ps_set (i := 1) scLaw.nd rfl (.inl rfl) (pe_op op_cat (pv 1) (pe_lst (pa_cons pe_str (pa_cons pe_str pa_nil)))))
    (pss_cons (ps_for PassesOwn.never rfl (pi_range1 (by rfl) U.range (pa_cons (pe_callB (call_max2 rfl) (by rfl) T.max (by decide +kernel) (pa_cons pe_int (pa_cons (pe_callB (call_min2 rfl) (by rfl) U.min (by decide +kernel)
        (pa_cons pe_int (pa_cons (pe_callB call_len_seq (by rfl) T.len PySem.boot_len (pa_cons (pv 0) pa_nil)) pa_nil))) pa_nil))) pa_nil)) (pg_name (i := 2) scLaw.nd rfl (.inl rfl))
      (pss_cons (ps_set (i := 3) scLaw.nd rfl (.inr rfl) (pe_call G5 r1 rfl m5 k5 b5 .nil pass0 (pa_cons (pv 0) (pa_cons (pv 2) pa_nil))))
      (pss_cons (ps_set (i := 4) scLaw.nd rfl (.inl rfl) (pe_call G7 r3 rfl m7 k7 b7 .nil pass0 (pa_cons (pv 3) (pa_cons pe_int pa_nil))))
      (pss_cons (ps_set (i := 5) scLaw.nd rfl (.inr rfl) (pe_call G4 r4 rfl m4 k4 b4 .nil pass0 (pa_cons (pe_call G8 r5 rfl m8 k8 b8 .nil pass0 (pa_cons (pv 3) (pa_cons (pv 4) (pa_cons (pe_lst (pa_cons pe_int (pa_cons pe_int pa_nil))) (pa_cons (pe_op op_add pe_int (pe_call G6 r1 rfl m6 k6 b6 .nil pass0 (pa_cons (pv 3) (pa_cons pe_int pa_nil)))) pa_nil))))) pa_nil)))
      (pss_cons (ps_set (i := 6) scLaw.nd rfl (.inl rfl) (pe_call G4 r4 rfl m4 k4 b4 .nil pass0 (pa_cons (pe_tup (pa_cons (pe_ix ix_list (pv 4) pe_int (fun _ _ => rfl)) (pa_cons (pe_tup (pa_cons pe_int (pa_cons pe_int (pa_cons (pe_ix ix_list (pv 4) pe_int (fun _ _ => rfl)) (pa_cons pe_int pa_nil)))))
          (pa_cons pe_int (pa_cons (pe_tup (pa_cons pe_int (pa_cons (pe_tup (pa_cons pe_int (pa_cons pe_int (pa_cons pe_int (pa_cons pe_int pa_nil))))) (pa_cons pe_int (pa_cons pe_int pa_nil))))) pa_nil))))) pa_nil)))
      (pss_cons (ps_set (i := 7) scLaw.nd rfl (.inl rfl) (pe_op op_add_str (pe_op op_add_str pe_str (pv 6)) pe_str))
      pR))))))
    (pss_one (ps_ret pe_bl))))), ?_⟩
  refine ⟨by show 14 ≤ sizeLine; decide, fun l1 hl1 => ?_⟩
  have g1 := same_upd (o := .lst ((oddS.take 14).map V.str)) hl1
  have v1 : (upd H0 l1 (.lst ((oddS.take 14).map V.str))) l1 = some (.lst ((oddS.take 14).map V.str)) := upd_same
  refine ⟨_, rfl, by show 8 ≤ sizeLine; decide, fun l2 hl2 => ?_⟩
  have g2 := same_upd (o := .lst (((oddS.drop 14).take 8).map V.str)) hl2
  refine ⟨l1, l2, _, _, rfl, rfl, g2 _ _ v1, upd_same, by show 14 + 8 ≤ sizeLine; decide, fun l3 hl3 => ?_⟩
  have g3 := same_upd (o := .lst ((oddS.take 22).map V.str)) hl3
  refine ⟨_, rfl, by show 2 ≤ sizeLine; decide, fun l4 hl4 => ?_⟩
  have g4 := same_upd (o := .lst ((oddS.drop 22).map V.str)) hl4
  refine ⟨l3, l4, _, _, rfl, rfl, g4 _ _ upd_same, upd_same, by show 22 + 2 ≤ sizeLine; decide, fun lo hlo => ?_⟩
  have g5 := same_upd (o := .lst (oddS.map V.str)) hlo
  obtain ⟨B, hB⟩ : ∃ B, B = upd (upd (upd (upd (upd H0 l1 (HO.lst ((oddS.take 14).map V.str))) l2 (HO.lst (((oddS.drop 14).take 8).map V.str))) l3 (HO.lst ((oddS.take 22).map V.str))) l4 (HO.lst ((oddS.drop 22).map V.str))) lo (HO.lst (oddS.map V.str)) := ⟨_, rfl⟩
  have s0B : Same H0 B := by
    rw [hB]
    exact (((Same.trans g1 g2).trans g3).trans g4).trans g5
  have vlo : B lo = some (.lst (oddS.map V.str)) := by
    rw [hB]
    exact upd_same
  have hl : (ns.map V.int).length = ns.length := List.length_map _
  have hSB : SqL (lawX P w K mg base f cdv A outer s H0 E).K B a (ns.map V.int) := s0B.seq hS
  refine ⟨_, rfl, a, _, rfl, .inl (by rw [hB] at hSB; exact hSB), _, _, rfl, _, _, rfl, ?_⟩
  have hm : ∀ z : Int, 0 ≤ z → z ≤ 63 → 1 ≤ (if (if z < 8 then z else 8) > 1 then (if z < 8 then z else 8) else 1) ∧ (if (if z < 8 then z else 8) > 1 then (if z < 8 then z else 8) else 1) ≤ 8 := fun z _ _ => by
    split <;> split <;> omega
  have hz := hm ((ns.map V.int).length : Nat) (by omega) (by omega)
  refine ⟨_, rfl, by omega, by omega, for_range (lo := 0) (fun i σ' H' => (∃ e2 e3 e4 e5 e6 e7 e8 e9 e10 e11 : Option V, σ' = [some (.ref a), some (.ref lo), e2, e3, e4, e5, e6, e7, e8, e9, e10, e11]) ∧ Same B H') ⟨⟨_, _, _, _, _, _, _, _, _, _, rfl⟩, by rw [hB]; exact Same.refl _⟩ ?_ ?_⟩
  · rintro i σ' H1 hi ⟨⟨e2, e3, e4, e5, e6, e7, e8, e9, e10, e11, rfl⟩, s01⟩
    refine ⟨_, rfl, _, rfl, a, ns, _, rfl, (s0B.trans s01).seq hS, by omega, by omega, fun p x y hp x0 y0 y1 => ?_⟩
    have p2 : PoolAt (upd H1 p (.lst [.int x, .int y])) p := ⟨x, y, upd_same, x0, y0, y1⟩
    have s12 : Same H1 (upd H1 p (.lst [.int x, .int y])) := same_upd hp _
    generalize upd H1 p (.lst [.int x, .int y]) = H2 at p2 s12
    have np : B p = none := by
      cases e : B p with
      | none => rfl
      | some o =>
        have := s01 p o e
        rw [hp] at this
        cases this
    have keep : ∀ {G : Hp}, PoolOff p H2 G → Same B G := fun {G} g b o e => g.1 b o (s12 b o (s01 b o e)) (by simpa using ne_of_none (s01 b o e) hp)
    -- words
    refine ⟨_, rfl, p, 3, rfl, p2, by decide, fun H3 lw ws g3 nlw hlw wl wok => ?_⟩
    have nwp : lw ≠ p := p2.ne nlw
    have sm : ∀ {n : Nat}, n ≤ 20000 → n ≤ sizeLine := fun h => Nat.le_trans h (by decide)
    -- text
    refine ⟨_, rfl, _, rfl, by show 2 ≤ sizeLine; decide, fun lg hlg => ?_⟩
    have g5 : Same H3 (upd H3 lg (.lst [.int 0, .int 3])) := same_upd hlg _
    have v5 : (upd H3 lg (.lst [.int 0, .int 3])) lg = some (.lst [.int 0, .int 3]) := upd_same
    have p5 := g3.2.same g5
    have ngp : lg ≠ p := g3.2.ne hlg
    generalize upd H3 lg (.lst [.int 0, .int 3]) = H5 at g5 v5 p5
    obtain ⟨xa, ya, ea, xa0, ya0, ya1⟩ := id p5
    refine ⟨_, rfl, p, xa, ya, 3, rfl, ea, xa0, ya0, ya1, by decide, by decide, fun r x' y' r0 r1' c0 c1 c2 => ?_⟩
    have g6 : PoolOff p H5 (upd H5 p (.lst [.int x', .int y'])) := pool_upd c0 c1 c2
    generalize upd H5 p (.lst [.int x', .int y']) = H6 at g6
    have hlw6 : H6 lw = some (.lst (ws.map V.str)) := g6.1 _ _ (g5 _ _ hlw) (by simpa using nwp)
    refine ⟨_, _, rfl, rfl, p, lw, lg, ws, [0, 3], (1 + r).toNat, ?_, g6.2, ⟨hlw6, g6.1 _ _ v5 (by simpa using ngp), nwp, ngp, by omega, by omega, by decide, by decide, fun z hz => (wok z hz).1, by decide⟩, by omega, by omega, fun H7 v t s7 ht hf hd => ?_⟩
    · have e : (1 : Int) + r = (((1 + r).toNat : Nat) : Int) := by omega
      exact congrArg (fun z => [V.ref p, V.ref lw, V.ref lg, V.int z]) e
    have hd3 : t.deep ≤ 3 := by omega
    have t153 := text153 hf hd3
    refine ⟨v, t, rfl, ht, hf.small, Nat.le_trans hd3 (by decide), by omega, fun H8 s8 => ?_⟩
    have g8 : PoolOff p H2 H8 := (g3.trans (⟨Same.off g5, p5⟩ : PoolOff p H3 H5)).trans (g6.trans (s7.trans ⟨Same.off s8, s7.2.same s8⟩))
    have hlw8 : H8 lw = some (.lst (ws.map V.str)) := s8 _ _ (s7.1 _ _ hlw6 (by simpa using nwp))
    -- four
    obtain ⟨w0, hw0⟩ : ∃ w0, ws[0]? = some w0 := ⟨_, List.getElem?_eq_getElem (by omega)⟩
    obtain ⟨w1, hw1⟩ : ∃ w1, ws[1]? = some w1 := ⟨_, List.getElem?_eq_getElem (by omega)⟩
    have hx0 : (ws.map V.str)[0]? = some (.str w0) := by
      rw [List.getElem?_map, hw0]
      rfl
    have hx1 : (ws.map V.str)[1]? = some (.str w1) := by
      rw [List.getElem?_map, hw1]
      rfl
    have ok0 := (wok w0 (List.mem_of_getElem? hw0)).1
    have ok1 := (wok w1 (List.mem_of_getElem? hw1)).1
    refine ⟨_, rfl, lw, _, _, _, rfl, rfl, SqL.of hlw8, atI_nat (j := 0) hx0, _, rfl, lw, _, _, _, rfl, rfl, SqL.of hlw8, atI_nat (j := 1) hx1, by show 4 ≤ sizeLine; decide, fun ta hta => ?_⟩
    have ga : Same H8 (upd H8 ta (.tup [.int 1, .int 2, .str w1, .int 3])) := same_upd hta _
    have va : (upd H8 ta (.tup [.int 1, .int 2, .str w1, .int 3])) ta = some (.tup [.int 1, .int 2, .str w1, .int 3]) := upd_same
    generalize upd H8 ta (.tup [.int 1, .int 2, .str w1, .int 3]) = Ha at ga va
    refine ⟨by show 4 ≤ sizeLine; decide, fun tb htb => ?_⟩
    have gb : Same Ha (upd Ha tb (.tup [.int 6, .int 7, .int 8, .int 9])) := same_upd htb _
    have vb : (upd Ha tb (.tup [.int 6, .int 7, .int 8, .int 9])) tb = some (.tup [.int 6, .int 7, .int 8, .int 9]) := upd_same
    generalize upd Ha tb (.tup [.int 6, .int 7, .int 8, .int 9]) = Hb at gb vb
    refine ⟨by show 4 ≤ sizeLine; decide, fun tc htc => ?_⟩
    have gc : Same Hb (upd Hb tc (.tup [.int 5, .ref tb, .int 0, .int 1])) := same_upd htc _
    have vc : (upd Hb tc (.tup [.int 5, .ref tb, .int 0, .int 1])) tc = some (.tup [.int 5, .ref tb, .int 0, .int 1]) := upd_same
    generalize upd Hb tc (.tup [.int 5, .ref tb, .int 0, .int 1]) = Hc at gc vc
    refine ⟨by show 4 ≤ sizeLine; decide, fun td htd => ?_⟩
    have gd : Same Hc (upd Hc td (.tup [.str w0, .ref ta, .int 4, .ref tc])) := same_upd htd _
    have vd : (upd Hc td (.tup [.str w0, .ref ta, .int 4, .ref tc])) td = some (.tup [.str w0, .ref ta, .int 4, .ref tc]) := upd_same
    generalize upd Hc td (.tup [.str w0, .ref ta, .int 4, .ref tc]) = Hd at gd vd
    have tr4 : TrAt Hd (.ref td) (.ch (.wd w0) (.ch (.num 1) (.num 2) (.wd w1) (.num 3)) (.num 4) (.ch (.num 5) (.ch (.num 6) (.num 7) (.num 8) (.num 9)) (.num 0) (.num 1))) :=
      .ch vd (.wd _) (.ch (gd _ _ (gc _ _ (gb _ _ va))) (.num _) (.num _) (.wd _) (.num _)) (.num _) (.ch (gd _ _ vc) (.num _) (.ch (gd _ _ (gc _ _ vb)) (.num _) (.num _) (.num _) (.num _)) (.num _) (.num _))
    have f4 : (Tr.ch (.wd w0) (.ch (.num 1) (.num 2) (.wd w1) (.num 3)) (.num 4) (.ch (.num 5) (.ch (.num 6) (.num 7) (.num 8) (.num 9)) (.num 0) (.num 1))).fine :=
      ⟨ok0, ⟨⟨by decide, by decide⟩, ⟨by decide, by decide⟩, ok1, ⟨by decide, by decide⟩⟩, ⟨by decide, by decide⟩, ⟨⟨by decide, by decide⟩, ⟨⟨by decide, by decide⟩, ⟨by decide, by decide⟩, ⟨by decide, by decide⟩, ⟨by decide, by decide⟩⟩, ⟨by decide, by decide⟩, ⟨by decide, by decide⟩⟩⟩
    have d4 : (Tr.ch (.wd w0) (.ch (.num 1) (.num 2) (.wd w1) (.num 3)) (.num 4) (.ch (.num 5) (.ch (.num 6) (.num 7) (.num 8) (.num 9)) (.num 0) (.num 1))).deep ≤ 4 := by show 4 ≤ 4; decide
    have t4l : (Tr.ch (.wd w0) (.ch (.num 1) (.num 2) (.wd w1) (.num 3)) (.num 4) (.ch (.num 5) (.ch (.num 6) (.num 7) (.num 8) (.num 9)) (.num 0) (.num 1))).text.length ≤ 153 := by
      have z0 : (Tr.num 0).text.length = 1 := by decide +kernel
      have z1 : (Tr.num 1).text.length = 1 := by decide +kernel
      have z2 : (Tr.num 2).text.length = 1 := by decide +kernel
      have z3 : (Tr.num 3).text.length = 1 := by decide +kernel
      have z4 : (Tr.num 4).text.length = 1 := by decide +kernel
      have z5 : (Tr.num 5).text.length = 1 := by decide +kernel
      have z6 : (Tr.num 6).text.length = 1 := by decide +kernel
      have z7 : (Tr.num 7).text.length = 1 := by decide +kernel
      have z8 : (Tr.num 8).text.length = 1 := by decide +kernel
      have z9 : (Tr.num 9).text.length = 1 := by decide +kernel
      have y0 : (Tr.wd w0).text.length ≤ 8 := ok0.2.1
      have y1 : (Tr.wd w1).text.length ≤ 8 := ok1.2.1
      rw [← len_codes]
      simp only [codes_ch, List.length_cons, List.length_append, List.length_nil, len_codes, z0, z1, z2, z3, z4, z5, z6, z7, z8, z9]
      omega
    generalize (Tr.ch (.wd w0) (.ch (.num 1) (.num 2) (.wd w1) (.num 3)) (.num 4) (.ch (.num 5) (.ch (.num 6) (.num 7) (.num 8) (.num 9)) (.num 0) (.num 1))) = t4 at tr4 f4 d4 t4l
    refine ⟨.ref td, t4, rfl, tr4, f4.small, d4, by omega, fun H9 s9 => ?_⟩
    have gad := ((ga.trans gb).trans gc).trans gd
    have g9 : PoolOff p H2 H9 := g8.trans ⟨Same.off (gad.trans s9), (g8.2.same gad).same s9⟩
    -- deep
    have a1 : ("(" : Str).length = 1 := by decide +kernel
    have a2 : ("=a?b:c)" : Str).length = 7 := by decide +kernel
    refine ⟨_, rfl, _, _, rfl, rfl, sm (by rw [a1]; omega), _, _, rfl, rfl, sm (by rw [Str.length_append, a1, a2]; omega), ?_⟩
    have wl := wrap_len t4.text
    refine rR ⟨lo, .int (0 + (i : Int)), p, .ref lw, t.text, t4.text, wrapT t4.text, B, oddS⟩ _ _ _ ⟨⟨⟨_, _, _, _, rfl⟩, keep g9⟩, g9.2, ⟨np, vlo, odd_ok, by show 24 ≤ 100; decide, plain_text hf, plain_text f4, wrap_plain (plain_text f4), t153, t4l, by show (wrapT t4.text).length ≤ 161; omega⟩⟩ fun σ' H' h' => ?_
    obtain ⟨⟨k8, k9, k10, k11, rfl⟩, sE⟩ := h'
    exact ⟨⟨_, _, _, _, _, _, _, _, _, _, rfl⟩, sE⟩
  · rintro σ' H1 ⟨⟨e2, e3, e4, e5, e6, e7, e8, e9, e10, e11, rfl⟩, s01⟩
    exact q H1
end
end TS
namespace TS
open PySem PySem.Spec PyProof.Rows PySem.W PySem.Calls L2
/-- the built-in base of an own error -/
structure BaseF (B newId initId : String) (bmB : List Value) : Prop where
  NF : ∃ (Bn iN : String) (bmN : List Value), ExcBaseFacts Bn newId iN bmN ∧ bmB.contains (.type Bn) = true
  noA : bmB.contains (.type "AttributeError") = false
  noN : bmB.contains (.type "NameError") = false
  IF : IniF B initId
  pass : ∀ self : Value, refuseLoop self "__setattr__" bmB = pure ()
  obj : bmB.contains (.type "object") = true
abbrev valMro : List Value := [.type "ValueError", .type "Exception", .type "BaseException", .type "object"]
abbrev ovfMro : List Value := [.type "OverflowError", .type "ArithmeticError", .type "Exception", .type "BaseException", .type "object"]
abbrev runMro : List Value := [.type "RuntimeError", .type "Exception", .type "BaseException", .type "object"]
theorem valBase : BaseF "ValueError" "ValueError.__new__" "ValueError.__init__" valMro := ⟨⟨_, _, _, F.excBase_ValueError, by decide +kernel⟩, by decide +kernel, by decide +kernel, .of F.excBase_ValueError.toExcCallFacts kxs_ValueError, F.store_ValueError.passes, by decide +kernel⟩
theorem ovfBase : BaseF "OverflowError" "OverflowError.__new__" "OverflowError.__init__" ovfMro := ⟨⟨_, _, _, F.excBase_OverflowError, by decide +kernel⟩, by decide +kernel, by decide +kernel, .of F.excBase_OverflowError.toExcCallFacts kxs_OverflowError, fun self => by kernel_rfl, by decide +kernel⟩
theorem runBase : BaseF "RuntimeError" "RuntimeError.__new__" "RuntimeError.__init__" runMro := ⟨⟨_, _, _, F.excBase_RuntimeError, by decide +kernel⟩, by decide +kernel, by decide +kernel, .of F.excBase_RuntimeError.toExcCallFacts kxs_RuntimeError, fun self => by kernel_rfl, by decide +kernel⟩
/-- the names in such an __init__ -/
abbrev iniNames (arg : Str) : List (Str × NameKind) := [("self", .local), (arg, .local), ("__class__", .free), ("super", .globalImplicit)]
abbrev iniArgs (arg : Str) (q1 q2 : Pos) : Arguments := { posonlyargs := [], args := [{ arg := "self", annotation := none, pos := q1 }, { arg := arg, annotation := none, pos := q2 }], vararg := none, kwonlyargs := [], kw_defaults := [], kwarg := none, defaults := [] }
abbrev iniBody (arg msg : Str) (kk : Nat) (p0 p1 p2 p3 p4 p5 p6 p7 p8 p9 : Pos) : List Stmt := [.Expr (supX msg kk p0 p1 p2 p3 p4) p5, .Assign [.Attribute (.Name "self" p6) arg p7] (.Name arg p8) p9]
/-- an attribute's name that is none of the others -/
def argOk (arg : Str) : Bool := decide (arg ≠ "self") && decide (arg ≠ "super") && decide (arg ≠ "__class__") && !(arg == ("__debug__" : Str))
theorem ini_names {arg : Str} (h : argOk arg = true) : (iniNames arg).lookup ("super" : Str) = some .globalImplicit ∧ (iniNames arg).lookup ("__class__" : Str) = some .free ∧ (iniNames arg).lookup ("self" : Str) = some .local ∧ (iniNames arg).lookup arg = some .local ∧ (∀ x ∈ iniNames arg, x.2 ≠ .cell) ∧ arg ≠ "self" ∧ (arg == ("__debug__" : Str)) = false := by
  unfold argOk at h
  simp only [Bool.and_eq_true, decide_eq_true_eq, Bool.not_eq_true'] at h
  obtain ⟨⟨⟨h1, h2⟩, h3⟩, h4⟩ := h
  have n1 : (("super" : Str) == arg) = false := by simpa using fun z : ("super" : Str) = arg => h2 z.symm
  have n2 : (("__class__" : Str) == arg) = false := by simpa using fun z : ("__class__" : Str) = arg => h3 z.symm
  have n3 : (arg == ("self" : Str)) = false := by simpa using h1
  have m1 : (("super" : Str) == "self") = false := by decide +kernel
  have m2 : (("super" : Str) == "__class__") = false := by decide +kernel
  have m3 : (("__class__" : Str) == "self") = false := by decide +kernel
  refine ⟨?_, ?_, ?_, ?_, ?_, h1, h4⟩
  · simp [List.lookup, n1, m1, m2]
  · simp [List.lookup, n2, m3]
  · simp [List.lookup]
  · simp [List.lookup, n3]
  · intro x hx
    simp only [List.mem_cons, List.not_mem_nil, or_false] at hx
    rcases hx with rfl | rfl | rfl | rfl <;> simp
theorem errC_mk {Goal : Prop} {P : Program} {w : World} {K : Frag} {h : Heap} {mg : Str → Option Value} {x arg qual msg file : Str} {C fI cc cda : Addr} {B newId initId : String} {bmB : List Value}
    {nm qn : Str} {N : Addr} {bs bm sub : List Value} {sn : List Str} {ab : Bool} {col : Option Bool} {dd : Option Addr} {k0 k1 k2 k3 k5 : Option Value}
    {q1 q2 p0 p1 p2 p3 p4 p5 p6 p7 p8 p9 : Pos} {kk : Nat} {doc pm ct oc : Value} {an od : Option Addr} {osl : Array (Option Value)} {ccl cl : Value} {cdd cld : Option Addr} {cvs : Array Value} {ccs csl : Array (Option Value)} {tf : Tok}
    (X : K.In h) (G : h.Ns mainGlobals mg) (FB : BaseF B newId initId bmB) (ao : argOk arg = true) (hfile : ((P.main.file : Str) == file) = true) (htop : (P.main.scope.names.lookup ("super" : Str)).isSome = false)
    (hn : specialIn K (.builtin "object.__class__") "__get__" = some (some (.builtin "getset_descriptor.__get__"))) (htk : takesIn K (.builtin "object.__class__") = some true) (ho : nsIn K cStatics "thirdparty.any" = some none) (su : nsIn K mainGlobals "super" = some none)
    (aC : nsIn K mainGlobals x = some (some (.ref C)))
    (xL : K.lookup C = some (excClassObj nm qn C N bs bm true sn sub ab col dd k0 k1 k2 k3 k5 newId)) (xT : excTail bmB bm = true)
    (sa : findIn K (.ref C) "__setattr__" = some (some (.builtin "object.__setattr__"))) (exC : subIn K (.ref C) (.type "BaseException") = some true) (tyC : typeIn K (.ref C) = some (.type "type")) (kC : keepIn K (.ref C) = true)
    (ga : findIn K (.ref C) "__getattribute__" = some (some (.builtin "BaseException.__getattribute__"))) (gg : findIn K (.ref C) "__getattr__" = some none) (hd : hasDictIn K C = true) (hc : isClsIn K C = true)
    (ha : findIn K (.ref C) "__class__" = some (some (.builtin "object.__class__"))) (mo : mroIn K C (.type "object") = some true) (no : findIn K (.ref C) arg = some none)
    (iC : findIn K (.ref C) "__init__" = some (some (.ref fI))) (tI : typeIn K (.ref fI) = some (.type "function"))
    (lk : K.lookup fI = some ⟨oc, od, .func (ksFn "__init__" qual (iniArgs arg q1 q2) (iniBody arg msg kk p0 p1 p2 p3 p4 p5 p6 p7 p8 p9) (fscope (iniNames arg)) .none .none doc pm an (.ref cda) ct cc), osl⟩)
    (lc : K.lookup cda = some ⟨ccl, cdd, .fields cvs, ccs⟩) (fl : cvs[2]? = some (.str file tf)) (le : K.lookup cc = some ⟨cl, cld, .cell (some (.ref C)), csl⟩) (ms : mroIn K C (.ref C) = some true) (cd : codeIn K (.ref cda) qual = true)
    (si : ks_superIn K C C "__init__" = some (some (.builtin initId))) (sB : subIn K (.ref C) (.type B) = some true) (SO : SupOk msg kk p0 p1 p2 p3 p4)
    (pb : ∀ a b : Value, bindArgs (ksFn "__init__" qual (iniArgs arg q1 q2) (iniBody arg msg kk p0 p1 p2 p3 p4 p5 p6 p7 p8 p9) (fscope (iniNames arg)) .none .none doc pm an (.ref cda) ct cc) ⟨[a, b], []⟩ = pure (((["self", arg] : List Str)).zip [a, b]))
    (k : ((∀ base, ErrC P w K mg base x arg C) ∧ IsX K C) → Goal) : Goal := by
  have T : ErrK K C B newId initId bmB := ⟨FB.NF, FB.noA, FB.noN, FB.IF, FB.pass, FB.obj, ⟨nm, qn, N, bs, bm, sn, sub, ab, col, dd, k0, k1, k2, k3, k5, xL, xT⟩, sa, exC, tyC, kC⟩
  have Z : IniTxt K C cc cda qual file B initId := ⟨⟨ccl, cdd, cvs, ccs, tf, lc, fl⟩, ⟨cl, cld, csl, le⟩, ms, cd, ho, si, sB⟩
  have I : IsX K C := ⟨⟨ga, gg, exC, hd⟩, hc, ha, hn, htk, mo⟩
  obtain ⟨n1, n2, n3, n4, n5, n6, n7⟩ := ini_names ao
  exact k ⟨fun base => ⟨⟨B, newId, initId, bmB, fI, _, T, iC, tI, fn_ini (k := 0) T Z SO lk hfile htop (mg_none_of X G su) no rfl rfl n1 n2 n3 n4 n5 n6 n7, Binds.all fun us hl => match us, hl with | [_, _], _ => pb _ _⟩, mg_of X G aC, I.x, no⟩, I⟩
theorem ao_value : argOk "value" = true := by decide +kernel
theorem ao_who : argOk "who" = true := by decide +kernel
theorem ao_most : argOk "most" = true := by decide +kernel
end TS
namespace TS
open PySem PySem.W L2
theorem all_mk {l : OpenLaw} {w : World} {K : Frag} {h : Heap} {mg : Str → Option Value} {fa : Addr} {f_num : Addr} {od_num an_num : Option Addr} {sl_num : Array (Option Value)} {oc_num kV_num dc_num pm_num cd_num ct_num : Value} {f_asc : Addr} {od_asc an_asc : Option Addr} {sl_asc : Array (Option Value)} {oc_asc kV_asc dc_asc pm_asc cd_asc ct_asc : Value} {f_word : Addr} {od_word an_word : Option Addr} {sl_word : Array (Option Value)} {oc_word kV_word dc_word pm_word cd_word ct_word : Value} {f_choice : Addr} {od_choice an_choice : Option Addr} {sl_choice : Array (Option Value)} {oc_choice kV_choice dc_choice pm_choice cd_choice ct_choice : Value} {f_tree : Addr} {od_tree an_tree : Option Addr} {sl_tree : Array (Option Value)} {oc_tree kV_tree dc_tree pm_tree cd_tree ct_tree : Value} {f_ttext : Addr} {od_ttext an_ttext : Option Addr} {sl_ttext : Array (Option Value)} {oc_ttext kV_ttext dc_ttext pm_ttext cd_ttext ct_ttext : Value} {f_treeof : Addr} {od_treeof an_treeof : Option Addr} {sl_treeof : Array (Option Value)} {oc_treeof kV_treeof dc_treeof pm_treeof cd_treeof ct_treeof : Value} {f_need : Addr} {od_need an_need : Option Addr} {sl_need : Array (Option Value)} {oc_need kV_need dc_need pm_need cd_need ct_need : Value} {f_text : Addr} {od_text an_text : Option Addr} {sl_text : Array (Option Value)} {oc_text kV_text dc_text pm_text cd_text ct_text : Value} {f_depth : Addr} {od_depth an_depth : Option Addr} {sl_depth : Array (Option Value)} {oc_depth kV_depth dc_depth pm_depth cd_depth ct_depth : Value} {f_kind : Addr} {od_kind an_kind : Option Addr} {sl_kind : Array (Option Value)} {oc_kind kV_kind dc_kind pm_kind cd_kind ct_kind : Value} {f_leaves : Addr} {od_leaves an_leaves : Option Addr} {sl_leaves : Array (Option Value)} {oc_leaves kV_leaves dc_leaves pm_leaves cd_leaves ct_leaves : Value} {f_pool : Addr} {od_pool an_pool : Option Addr} {sl_pool : Array (Option Value)} {oc_pool kV_pool dc_pool pm_pool cd_pool ct_pool : Value} {f_take : Addr} {od_take an_take : Option Addr} {sl_take : Array (Option Value)} {oc_take kV_take dc_take pm_take cd_take ct_take : Value} {f_one : Addr} {od_one an_one : Option Addr} {sl_one : Array (Option Value)} {oc_one kV_one dc_one pm_one cd_one ct_one : Value} {f_words : Addr} {od_words an_words : Option Addr} {sl_words : Array (Option Value)} {oc_words kV_words dc_words pm_words cd_words ct_words : Value} {f_ltree : Addr} {od_ltree an_ltree : Option Addr} {sl_ltree : Array (Option Value)} {oc_ltree kV_ltree dc_ltree pm_ltree cd_ltree ct_ltree : Value} {f_ltext : Addr} {od_ltext an_ltext : Option Addr} {sl_ltext : Array (Option Value)} {oc_ltext kV_ltext dc_ltext pm_ltext cd_ltext ct_ltext : Value} {f_ldeep : Addr} {od_ldeep an_ldeep : Option Addr} {sl_ldeep : Array (Option Value)} {oc_ldeep kV_ldeep dc_ldeep pm_ldeep cd_ldeep ct_ldeep : Value} {f_read : Addr} {od_read an_read : Option Addr} {sl_read : Array (Option Value)} {oc_read kV_read dc_read pm_read cd_read ct_read : Value} {f_due : Addr} {od_due an_due : Option Addr} {sl_due : Array (Option Value)} {oc_due kV_due dc_due pm_due cd_due ct_due : Value} {f_told : Addr} {od_told an_told : Option Addr} {sl_told : Array (Option Value)} {oc_told kV_told dc_told pm_told cd_told ct_told : Value} {f_bent : Addr} {od_bent an_bent : Option Addr} {sl_bent : Array (Option Value)} {oc_bent kV_bent dc_bent pm_bent cd_bent ct_bent : Value} {f_law : Addr} {od_law an_law : Option Addr} {sl_law : Array (Option Value)} {oc_law kV_law dc_law pm_law cd_law ct_law : Value} {f_tinit : Addr} {od_tinit an_tinit : Option Addr} {sl_tinit : Array (Option Value)} {oc_tinit kV_tinit dc_tinit pm_tinit cd_tinit ct_tinit : Value} {f_tstr : Addr} {od_tstr an_tstr : Option Addr} {sl_tstr : Array (Option Value)} {oc_tstr kV_tstr dc_tstr pm_tstr cd_tstr ct_tstr : Value} {t_LETTERS : Tok} {t_DIGITS : Tok} {t_PART_SIGNS : Tok} {t_MOST_LETTERS : Tok} {t_MOST_DEPTH : Tok} {t_MOST_CONSTANT : Tok} {C TE N : Addr} (X : K.In h) (G : h.Ns mainGlobals mg) (hfa : mg "law" = some (.ref fa)) (EN : (∀ base, ErrC l.prog w K mg base "NoTerm" "value" N) ∧ IsX K N)
    (aC : nsIn K mainGlobals "Term" = some (some (.ref C)))
    (pg : plainGet K C Str.empty = true)
    (hd : hasDictIn K C = true)
    (po : plainOver K C = true)
    (sa : findIn K (.ref C) "__setattr__" = some (some (.builtin "object.__setattr__")))
    (mk : makesIn K C = true)
    (kc : keepIn K (.ref C) = true)
    (n1 : findIn K (.ref C) "_tree" = some none)
    (n2 : findIn K (.ref C) "_text" = some none)
    (n3 : findIn K (.ref C) "_depth" = some none)
    (n4 : findIn K (.ref C) "_kind" = some none)
    (n5 : findIn K (.ref C) "_leaves" = some none)
    (n6 : findIn K (.ref C) "_variables" = some none)
    (n7 : findIn K (.ref C) "_constants" = some none)
    (ha : findIn K (.ref C) "__class__" = some (some (.builtin "object.__class__")))
    (hn : specialIn K (.builtin "object.__class__") "__get__" = some (some (.builtin "getset_descriptor.__get__")))
    (htk : takesIn K (.builtin "object.__class__") = some true)
    (hm : mroIn K C (.type "object") = some true)
    (kC : kitOne K (.ref C) (.ref C) = some true)
    (kStr : kitOne K (.type "str") (.ref C) = some false)
    (kInt : kitOne K (.type "int") (.ref C) = some false)
    (kTup : kitOne K (.type "tuple") (.ref C) = some false)
    (kCS : kitOne K (.ref C) (.type "str") = some false)
    (ex : exmOne K (.ref N) (.ref N) = some true)
    (kNon : kitOne K (.type "NoneType") (.ref C) = some false)
    (kLst : kitOne K (.type "list") (.ref C) = some false)
    (kDct : kitOne K (.type "dict") (.ref C) = some false)
    (kBool : kitOne K (.type "bool") (.ref C) = some false)
    (aTE : nsIn K mainGlobals "TiedError" = some (some (.ref TE)))
    (kTE : kitOne K (.ref N) (.ref TE) = some true)
    (a_num : nsIn K mainGlobals "is_number" = some (some (.ref f_num)))
    (l_num : K.lookup f_num = some ⟨oc_num, od_num, .func (fnOf "is_number" "is_number" (defArgs sIsNum) (defBody sIsNum) (defScope sIsNum) .none kV_num dc_num pm_num an_num cd_num ct_num), sl_num⟩)
    (c_num : codeIn K cd_num "is_number" = true)
    (k_num : keepIn K (.ref f_num) = true)
    (a_asc : nsIn K mainGlobals "ascending" = some (some (.ref f_asc)))
    (l_asc : K.lookup f_asc = some ⟨oc_asc, od_asc, .func (fnOf "ascending" "ascending" (defArgs sAsc) (defBody sAsc) (defScope sAsc) .none kV_asc dc_asc pm_asc an_asc cd_asc ct_asc), sl_asc⟩)
    (c_asc : codeIn K cd_asc "ascending" = true)
    (k_asc : keepIn K (.ref f_asc) = true)
    (a_word : nsIn K mainGlobals "_word_end" = some (some (.ref f_word)))
    (l_word : K.lookup f_word = some ⟨oc_word, od_word, .func (fnOf "_word_end" "_word_end" (defArgs sWord) (defBody sWord) (defScope sWord) .none kV_word dc_word pm_word an_word cd_word ct_word), sl_word⟩)
    (c_word : codeIn K cd_word "_word_end" = true)
    (k_word : keepIn K (.ref f_word) = true)
    (a_choice : nsIn K mainGlobals "_choice_at" = some (some (.ref f_choice)))
    (l_choice : K.lookup f_choice = some ⟨oc_choice, od_choice, .func (fnOf "_choice_at" "_choice_at" (defArgs sChoice) (defBody sChoice) (defScope sChoice) .none kV_choice dc_choice pm_choice an_choice cd_choice ct_choice), sl_choice⟩)
    (c_choice : codeIn K cd_choice "_choice_at" = true)
    (k_choice : keepIn K (.ref f_choice) = true)
    (a_tree : nsIn K mainGlobals "_tree_at" = some (some (.ref f_tree)))
    (l_tree : K.lookup f_tree = some ⟨oc_tree, od_tree, .func (fnOf "_tree_at" "_tree_at" (defArgs sTree) (defBody sTree) (defScope sTree) .none kV_tree dc_tree pm_tree an_tree cd_tree ct_tree), sl_tree⟩)
    (c_tree : codeIn K cd_tree "_tree_at" = true)
    (k_tree : keepIn K (.ref f_tree) = true)
    (a_ttext : nsIn K mainGlobals "_tree_of_text" = some (some (.ref f_ttext)))
    (l_ttext : K.lookup f_ttext = some ⟨oc_ttext, od_ttext, .func (fnOf "_tree_of_text" "_tree_of_text" (defArgs sTreeText) (defBody sTreeText) (defScope sTreeText) .none kV_ttext dc_ttext pm_ttext an_ttext cd_ttext ct_ttext), sl_ttext⟩)
    (c_ttext : codeIn K cd_ttext "_tree_of_text" = true)
    (k_ttext : keepIn K (.ref f_ttext) = true)
    (a_treeof : nsIn K mainGlobals "_tree_of" = some (some (.ref f_treeof)))
    (l_treeof : K.lookup f_treeof = some ⟨oc_treeof, od_treeof, .func (fnOf "_tree_of" "_tree_of" (defArgs sTreeOf) (defBody sTreeOf) (defScope sTreeOf) .none kV_treeof dc_treeof pm_treeof an_treeof cd_treeof ct_treeof), sl_treeof⟩)
    (c_treeof : codeIn K cd_treeof "_tree_of" = true)
    (k_treeof : keepIn K (.ref f_treeof) = true)
    (a_need : nsIn K mainGlobals "_needed_tree" = some (some (.ref f_need)))
    (l_need : K.lookup f_need = some ⟨oc_need, od_need, .func (fnOf "_needed_tree" "_needed_tree" (defArgs sNeed) (defBody sNeed) (defScope sNeed) .none kV_need dc_need pm_need an_need cd_need ct_need), sl_need⟩)
    (c_need : codeIn K cd_need "_needed_tree" = true)
    (k_need : keepIn K (.ref f_need) = true)
    (a_text : nsIn K mainGlobals "_text_of" = some (some (.ref f_text)))
    (l_text : K.lookup f_text = some ⟨oc_text, od_text, .func (fnOf "_text_of" "_text_of" (defArgs sText) (defBody sText) (defScope sText) .none kV_text dc_text pm_text an_text cd_text ct_text), sl_text⟩)
    (c_text : codeIn K cd_text "_text_of" = true)
    (k_text : keepIn K (.ref f_text) = true)
    (a_depth : nsIn K mainGlobals "_depth_of" = some (some (.ref f_depth)))
    (l_depth : K.lookup f_depth = some ⟨oc_depth, od_depth, .func (fnOf "_depth_of" "_depth_of" (defArgs sDepth) (defBody sDepth) (defScope sDepth) .none kV_depth dc_depth pm_depth an_depth cd_depth ct_depth), sl_depth⟩)
    (c_depth : codeIn K cd_depth "_depth_of" = true)
    (k_depth : keepIn K (.ref f_depth) = true)
    (a_kind : nsIn K mainGlobals "_kind_of" = some (some (.ref f_kind)))
    (l_kind : K.lookup f_kind = some ⟨oc_kind, od_kind, .func (fnOf "_kind_of" "_kind_of" (defArgs sKind) (defBody sKind) (defScope sKind) .none kV_kind dc_kind pm_kind an_kind cd_kind ct_kind), sl_kind⟩)
    (c_kind : codeIn K cd_kind "_kind_of" = true)
    (k_kind : keepIn K (.ref f_kind) = true)
    (a_leaves : nsIn K mainGlobals "_leaves_of" = some (some (.ref f_leaves)))
    (l_leaves : K.lookup f_leaves = some ⟨oc_leaves, od_leaves, .func (fnOf "_leaves_of" "_leaves_of" (defArgs sLeaves) (defBody sLeaves) (defScope sLeaves) .none kV_leaves dc_leaves pm_leaves an_leaves cd_leaves ct_leaves), sl_leaves⟩)
    (c_leaves : codeIn K cd_leaves "_leaves_of" = true)
    (k_leaves : keepIn K (.ref f_leaves) = true)
    (a_pool : nsIn K mainGlobals "_law_pool" = some (some (.ref f_pool)))
    (l_pool : K.lookup f_pool = some ⟨oc_pool, od_pool, .func (fnOf "_law_pool" "_law_pool" (defArgs sPool) (defBody sPool) (defScope sPool) .none kV_pool dc_pool pm_pool an_pool cd_pool ct_pool), sl_pool⟩)
    (c_pool : codeIn K cd_pool "_law_pool" = true)
    (k_pool : keepIn K (.ref f_pool) = true)
    (a_take : nsIn K mainGlobals "_law_take" = some (some (.ref f_take)))
    (l_take : K.lookup f_take = some ⟨oc_take, od_take, .func (fnOf "_law_take" "_law_take" (defArgs sTake) (defBody sTake) (defScope sTake) .none kV_take dc_take pm_take an_take cd_take ct_take), sl_take⟩)
    (c_take : codeIn K cd_take "_law_take" = true)
    (k_take : keepIn K (.ref f_take) = true)
    (a_one : nsIn K mainGlobals "_law_one" = some (some (.ref f_one)))
    (l_one : K.lookup f_one = some ⟨oc_one, od_one, .func (fnOf "_law_one" "_law_one" (defArgs sOne) (defBody sOne) (defScope sOne) .none kV_one dc_one pm_one an_one cd_one ct_one), sl_one⟩)
    (c_one : codeIn K cd_one "_law_one" = true)
    (k_one : keepIn K (.ref f_one) = true)
    (a_words : nsIn K mainGlobals "_law_words" = some (some (.ref f_words)))
    (l_words : K.lookup f_words = some ⟨oc_words, od_words, .func (fnOf "_law_words" "_law_words" (defArgs sWords) (defBody sWords) (defScope sWords) .none kV_words dc_words pm_words an_words cd_words ct_words), sl_words⟩)
    (c_words : codeIn K cd_words "_law_words" = true)
    (k_words : keepIn K (.ref f_words) = true)
    (a_ltree : nsIn K mainGlobals "_law_tree" = some (some (.ref f_ltree)))
    (l_ltree : K.lookup f_ltree = some ⟨oc_ltree, od_ltree, .func (fnOf "_law_tree" "_law_tree" (defArgs sLTree) (defBody sLTree) (defScope sLTree) .none kV_ltree dc_ltree pm_ltree an_ltree cd_ltree ct_ltree), sl_ltree⟩)
    (c_ltree : codeIn K cd_ltree "_law_tree" = true)
    (k_ltree : keepIn K (.ref f_ltree) = true)
    (a_ltext : nsIn K mainGlobals "_law_tree_text" = some (some (.ref f_ltext)))
    (l_ltext : K.lookup f_ltext = some ⟨oc_ltext, od_ltext, .func (fnOf "_law_tree_text" "_law_tree_text" (defArgs sLText) (defBody sLText) (defScope sLText) .none kV_ltext dc_ltext pm_ltext an_ltext cd_ltext ct_ltext), sl_ltext⟩)
    (c_ltext : codeIn K cd_ltext "_law_tree_text" = true)
    (k_ltext : keepIn K (.ref f_ltext) = true)
    (a_ldeep : nsIn K mainGlobals "_law_tree_deep" = some (some (.ref f_ldeep)))
    (l_ldeep : K.lookup f_ldeep = some ⟨oc_ldeep, od_ldeep, .func (fnOf "_law_tree_deep" "_law_tree_deep" (defArgs sLDeep) (defBody sLDeep) (defScope sLDeep) .none kV_ldeep dc_ldeep pm_ldeep an_ldeep cd_ldeep ct_ldeep), sl_ldeep⟩)
    (c_ldeep : codeIn K cd_ldeep "_law_tree_deep" = true)
    (k_ldeep : keepIn K (.ref f_ldeep) = true)
    (a_read : nsIn K mainGlobals "_law_read" = some (some (.ref f_read)))
    (l_read : K.lookup f_read = some ⟨oc_read, od_read, .func (fnOf "_law_read" "_law_read" (defArgs sLRead) (defBody sLRead) (defScope sLRead) .none kV_read dc_read pm_read an_read cd_read ct_read), sl_read⟩)
    (c_read : codeIn K cd_read "_law_read" = true)
    (k_read : keepIn K (.ref f_read) = true)
    (a_due : nsIn K mainGlobals "_law_due" = some (some (.ref f_due)))
    (l_due : K.lookup f_due = some ⟨oc_due, od_due, .func (fnOf "_law_due" "_law_due" (defArgs sDue) (defBody sDue) (defScope sDue) .none kV_due dc_due pm_due an_due cd_due ct_due), sl_due⟩)
    (c_due : codeIn K cd_due "_law_due" = true)
    (k_due : keepIn K (.ref f_due) = true)
    (a_told : nsIn K mainGlobals "_law_told" = some (some (.ref f_told)))
    (l_told : K.lookup f_told = some ⟨oc_told, od_told, .func (fnOf "_law_told" "_law_told" (defArgs sTold) (defBody sTold) (defScope sTold) .none kV_told dc_told pm_told an_told cd_told ct_told), sl_told⟩)
    (c_told : codeIn K cd_told "_law_told" = true)
    (k_told : keepIn K (.ref f_told) = true)
    (a_bent : nsIn K mainGlobals "_law_bent" = some (some (.ref f_bent)))
    (l_bent : K.lookup f_bent = some ⟨oc_bent, od_bent, .func (fnOf "_law_bent" "_law_bent" (defArgs sBent) (defBody sBent) (defScope sBent) .none kV_bent dc_bent pm_bent an_bent cd_bent ct_bent), sl_bent⟩)
    (c_bent : codeIn K cd_bent "_law_bent" = true)
    (k_bent : keepIn K (.ref f_bent) = true)
    (a_law : nsIn K mainGlobals "law" = some (some (.ref f_law)))
    (l_law : K.lookup f_law = some ⟨oc_law, od_law, .func (fnOf "law" "law" (defArgs sLaw) (defBody sLaw) (defScope sLaw) .none kV_law dc_law pm_law an_law cd_law ct_law), sl_law⟩)
    (c_law : codeIn K cd_law "law" = true)
    (k_law : keepIn K (.ref f_law) = true)
    (a_tinit : findIn K (.ref C) "__init__" = some (some (.ref f_tinit)))
    (i_tinit : isFn K (.ref f_tinit) = true)
    (l_tinit : K.lookup f_tinit = some ⟨oc_tinit, od_tinit, .func (fnOf "__init__" "Term.__init__" (defArgs sTInit) (defBody sTInit) (defScope sTInit) .none kV_tinit dc_tinit pm_tinit an_tinit cd_tinit ct_tinit), sl_tinit⟩)
    (c_tinit : codeIn K cd_tinit "Term.__init__" = true)
    (k_tinit : keepIn K (.ref f_tinit) = true)
    (a_tstr : findIn K (.ref C) "__str__" = some (some (.ref f_tstr)))
    (i_tstr : isFn K (.ref f_tstr) = true)
    (l_tstr : K.lookup f_tstr = some ⟨oc_tstr, od_tstr, .func (fnOf "__str__" "Term.__str__" (defArgs sTStr) (defBody sTStr) (defScope sTStr) .none kV_tstr dc_tstr pm_tstr an_tstr cd_tstr ct_tstr), sl_tstr⟩)
    (c_tstr : codeIn K cd_tstr "Term.__str__" = true)
    (k_tstr : keepIn K (.ref f_tstr) = true)
    (z_isinstance : nsIn K mainGlobals "isinstance" = some none)
    (z_tuple : nsIn K mainGlobals "tuple" = some none)
    (z_str : nsIn K mainGlobals "str" = some none)
    (z_int : nsIn K mainGlobals "int" = some none)
    (z_bool : nsIn K mainGlobals "bool" = some none)
    (z_max : nsIn K mainGlobals "max" = some none)
    (z_set : nsIn K mainGlobals "set" = some none)
    (z_sorted : nsIn K mainGlobals "sorted" = some none)
    (z_len : nsIn K mainGlobals "len" = some none)
    (z_any : nsIn K mainGlobals "any" = some none)
    (z_range : nsIn K mainGlobals "range" = some none)
    (z_list : nsIn K mainGlobals "list" = some none)
    (z_min : nsIn K mainGlobals "min" = some none)
    (z_enumerate : nsIn K mainGlobals "enumerate" = some none)
    (z_repr : nsIn K mainGlobals "repr" = some none)
    (v_LETTERS : nsIn K mainGlobals "LETTERS" = some (some (.str "abcdefghijklmnopqrstuvwxyz" t_LETTERS)))
    (v_DIGITS : nsIn K mainGlobals "DIGITS" = some (some (.str "0123456789" t_DIGITS)))
    (v_PART_SIGNS : nsIn K mainGlobals "PART_SIGNS" = some (some (.str "(=?:" t_PART_SIGNS)))
    (v_MOST_LETTERS : nsIn K mainGlobals "MOST_LETTERS" = some (some (.int 8 t_MOST_LETTERS)))
    (v_MOST_DEPTH : nsIn K mainGlobals "MOST_DEPTH" = some (some (.int 3 t_MOST_DEPTH)))
    (v_MOST_CONSTANT : nsIn K mainGlobals "MOST_CONSTANT" = some (some (.int 9 t_MOST_CONSTANT)))
    : ∃ fd : FuncData, (∀ (s : Shared) (v : Value), BindsTo s fd ⟨[v], []⟩ [("script", v)]) ∧ ∀ base : Heap, K.In base → base.Ns mainGlobals mg → FnG l.prog w K mg base 164 fa fd ["script"] (spLaw K) := by
  have e := hfa.symm.trans (mg_of X G a_law)
  cases e
  have F_num := fun_mk (st := sIsNum) l_num c_num k_num
  have b_num := F_num.binds (ps := ["value"]) fun _ _ _ _ _ _ us hl => match us, hl with | [_], _ => rfl
  have m_num := mg_of X G a_num
  have F_asc := fun_mk (st := sAsc) l_asc c_asc k_asc
  have b_asc := F_asc.binds (ps := ["values"]) fun _ _ _ _ _ _ us hl => match us, hl with | [_], _ => rfl
  have m_asc := mg_of X G a_asc
  have F_word := fun_mk (st := sWord) l_word c_word k_word
  have b_word := F_word.binds (ps := ["text", "at"]) fun _ _ _ _ _ _ us hl => match us, hl with | [_, _], _ => rfl
  have m_word := mg_of X G a_word
  have F_choice := fun_mk (st := sChoice) l_choice c_choice k_choice
  have b_choice := F_choice.binds (ps := ["text", "at", "room"]) fun _ _ _ _ _ _ us hl => match us, hl with | [_, _, _], _ => rfl
  have m_choice := mg_of X G a_choice
  have F_tree := fun_mk (st := sTree) l_tree c_tree k_tree
  have b_tree := F_tree.binds (ps := ["text", "at", "room"]) fun _ _ _ _ _ _ us hl => match us, hl with | [_, _, _], _ => rfl
  have m_tree := mg_of X G a_tree
  have F_ttext := fun_mk (st := sTreeText) l_ttext c_ttext k_ttext
  have b_ttext := F_ttext.binds (ps := ["text"]) fun _ _ _ _ _ _ us hl => match us, hl with | [_], _ => rfl
  have m_ttext := mg_of X G a_ttext
  have F_treeof := fun_mk (st := sTreeOf) l_treeof c_treeof k_treeof
  have b_treeof := F_treeof.binds (ps := ["value"]) fun _ _ _ _ _ _ us hl => match us, hl with | [_], _ => rfl
  have m_treeof := mg_of X G a_treeof
  have F_need := fun_mk (st := sNeed) l_need c_need k_need
  have b_need := F_need.binds (ps := ["value"]) fun _ _ _ _ _ _ us hl => match us, hl with | [_], _ => rfl
  have m_need := mg_of X G a_need
  have F_text := fun_mk (st := sText) l_text c_text k_text
  have b_text := F_text.binds (ps := ["tree"]) fun _ _ _ _ _ _ us hl => match us, hl with | [_], _ => rfl
  have m_text := mg_of X G a_text
  have F_depth := fun_mk (st := sDepth) l_depth c_depth k_depth
  have b_depth := F_depth.binds (ps := ["tree"]) fun _ _ _ _ _ _ us hl => match us, hl with | [_], _ => rfl
  have m_depth := mg_of X G a_depth
  have F_kind := fun_mk (st := sKind) l_kind c_kind k_kind
  have b_kind := F_kind.binds (ps := ["tree"]) fun _ _ _ _ _ _ us hl => match us, hl with | [_], _ => rfl
  have m_kind := mg_of X G a_kind
  have F_leaves := fun_mk (st := sLeaves) l_leaves c_leaves k_leaves
  have b_leaves := F_leaves.binds (ps := ["tree"]) fun _ _ _ _ _ _ us hl => match us, hl with | [_], _ => rfl
  have m_leaves := mg_of X G a_leaves
  have F_pool := fun_mk (st := sPool) l_pool c_pool k_pool
  have b_pool := F_pool.binds (ps := ["script", "k"]) fun _ _ _ _ _ _ us hl => match us, hl with | [_, _], _ => rfl
  have m_pool := mg_of X G a_pool
  have F_take := fun_mk (st := sTake) l_take c_take k_take
  have b_take := F_take.binds (ps := ["pool", "bound"]) fun _ _ _ _ _ _ us hl => match us, hl with | [_, _], _ => rfl
  have m_take := mg_of X G a_take
  have F_one := fun_mk (st := sOne) l_one c_one k_one
  have b_one := F_one.binds (ps := ["pool", "things"]) fun _ _ _ _ _ _ us hl => match us, hl with | [_, _], _ => rfl
  have m_one := mg_of X G a_one
  have F_words := fun_mk (st := sWords) l_words c_words k_words
  have b_words := F_words.binds (ps := ["pool", "bound"]) fun _ _ _ _ _ _ us hl => match us, hl with | [_, _], _ => rfl
  have m_words := mg_of X G a_words
  have F_ltree := fun_mk (st := sLTree) l_ltree c_ltree k_ltree
  have b_ltree := F_ltree.binds (ps := ["pool", "words", "digits", "deep"]) fun _ _ _ _ _ _ us hl => match us, hl with | [_, _, _, _], _ => rfl
  have m_ltree := mg_of X G a_ltree
  have F_ltext := fun_mk (st := sLText) l_ltext c_ltext k_ltext
  have b_ltext := F_ltext.binds (ps := ["tree"]) fun _ _ _ _ _ _ us hl => match us, hl with | [_], _ => rfl
  have m_ltext := mg_of X G a_ltext
  have F_ldeep := fun_mk (st := sLDeep) l_ldeep c_ldeep k_ldeep
  have b_ldeep := F_ldeep.binds (ps := ["tree"]) fun _ _ _ _ _ _ us hl => match us, hl with | [_], _ => rfl
  have m_ldeep := mg_of X G a_ldeep
  have F_read := fun_mk (st := sLRead) l_read c_read k_read
  have b_read := F_read.binds (ps := ["text", "spot"]) fun _ _ _ _ _ _ us hl => match us, hl with | [_, _], _ => rfl
  have m_read := mg_of X G a_read
  have F_due := fun_mk (st := sDue) l_due c_due k_due
  have b_due := F_due.binds (ps := ["text"]) fun _ _ _ _ _ _ us hl => match us, hl with | [_], _ => rfl
  have m_due := mg_of X G a_due
  have F_told := fun_mk (st := sTold) l_told c_told k_told
  have b_told := F_told.binds (ps := ["thing"]) fun _ _ _ _ _ _ us hl => match us, hl with | [_], _ => rfl
  have m_told := mg_of X G a_told
  have F_bent := fun_mk (st := sBent) l_bent c_bent k_bent
  have b_bent := F_bent.binds (ps := ["pool", "text"]) fun _ _ _ _ _ _ us hl => match us, hl with | [_, _], _ => rfl
  have m_bent := mg_of X G a_bent
  have F_law := fun_mk (st := sLaw) l_law c_law k_law
  have b_law := F_law.binds (ps := ["script"]) fun _ _ _ _ _ _ us hl => match us, hl with | [_], _ => rfl
  have m_law := mg_of X G a_law
  have F_tinit := fun_mk (st := sTInit) l_tinit c_tinit k_tinit
  have b_tinit := F_tinit.binds (ps := ["self", "value"]) fun _ _ _ _ _ _ us hl => match us, hl with | [_, _], _ => rfl
  have F_tstr := fun_mk (st := sTStr) l_tstr c_tstr k_tstr
  have b_tstr := F_tstr.binds (ps := ["self"]) fun _ _ _ _ _ _ us hl => match us, hl with | [_], _ => rfl
  have T : BltT mg := ⟨mg_none_of X G z_isinstance, mg_none_of X G z_tuple, mg_none_of X G z_str, mg_none_of X G z_int, mg_none_of X G z_bool, mg_none_of X G z_max, mg_none_of X G z_set, mg_none_of X G z_sorted, mg_none_of X G z_len, mg_none_of X G z_any⟩
  have U : BltU mg := ⟨mg_none_of X G z_range, mg_none_of X G z_list, mg_none_of X G z_min, mg_none_of X G z_enumerate⟩
  have M : CstT mg := ⟨⟨_, mg_of X G v_LETTERS⟩, ⟨_, mg_of X G v_DIGITS⟩, ⟨_, mg_of X G v_PART_SIGNS⟩, ⟨_, mg_of X G v_MOST_LETTERS⟩, ⟨_, mg_of X G v_MOST_DEPTH⟩⟩
  have TK : TermK K mg C := ⟨⟨pg, hd, po, sa⟩, mg_of X G aC, n1, n2, n3, n4, n5, n6, n7, ha, hn, htk, hm, kC, kStr, kInt, kTup, kCS⟩
  have R : RdF K mg _ _ _ _ _ _ := ⟨F_word, b_word, m_word, F_choice, b_choice, m_choice, F_tree, b_tree, m_tree⟩
  refine ⟨fnOf "law" "law" (defArgs sLaw) (defBody sLaw) (defScope sLaw) .none kV_law dc_law pm_law an_law cd_law ct_law, fun s v => .of_eq rfl, fun base _ _ => ?_⟩
  have GTT : FnOk l.prog w K mg base CX0 9 _ _ ["text"] spTreeText := ok_treeText F_ttext R T M
  have GTO : FnOk l.prog w K mg base CX0 10 _ _ ["value"] (spTreeOf K C) := ok_treeOf F_treeof T TK ⟨_, mg_of X G v_MOST_CONSTANT⟩ F_ttext b_ttext m_ttext GTT F_num b_num m_num
  have Htext : Has l.prog w K mg base "_text_of" 3 ["tree"] (spText 3) := .mk F_text m_text b_text (ok_text F_text T b_text m_text (ok_text F_text T b_text m_text (ok_text F_text T b_text m_text none_text)))
  have Hdepth : Has l.prog w K mg base "_depth_of" 3 ["tree"] (spDepth 3) := .mk F_depth m_depth b_depth (ok_depth F_depth T b_depth m_depth (ok_depth F_depth T b_depth m_depth (ok_depth F_depth T b_depth m_depth none_depth)))
  have Hkind : Has l.prog w K mg base "_kind_of" 1 ["tree"] spKind := .mk F_kind m_kind b_kind (ok_kind F_kind T)
  have Hleaves : Has l.prog w K mg base "_leaves_of" 3 ["tree"] (spLeaves 3) := .mk F_leaves m_leaves b_leaves (ok_leaves F_leaves T b_leaves m_leaves (ok_leaves F_leaves T b_leaves m_leaves (ok_leaves F_leaves T b_leaves m_leaves none_leaves)))
  have Hasc : Has l.prog w K mg base "ascending" 1 ["values"] spAsc := .mk F_asc m_asc b_asc (ok_asc F_asc T)
  have Hpool : Has l.prog w K mg base "_law_pool" 1 ["script", "k"] (spPool K) := .mk F_pool m_pool b_pool (ok_pool F_pool T)
  have Htake : Has l.prog w K mg base "_law_take" 1 ["pool", "bound"] spTake := .mk F_take m_take b_take (ok_take F_take T)
  have Hone : Has l.prog w K mg base "_law_one" 2 ["pool", "things"] (spOne K) := .mk F_one m_one b_one (ok_one F_one T Htake)
  have Hwords : Has l.prog w K mg base "_law_words" 3 ["pool", "bound"] spWords := .mk F_words m_words b_words (ok_words F_words T U Htake Hone)
  have Hltree : Has l.prog w K mg base "_law_tree" 5 ["pool", "words", "digits", "deep"] (spLTree 3) := .mk F_ltree m_ltree b_ltree (ok_ltree (n := 2) F_ltree T U b_ltree m_ltree Htake Hone (ok_ltree (n := 1) F_ltree T U b_ltree m_ltree Htake Hone (ok_ltree (n := 0) F_ltree T U b_ltree m_ltree Htake Hone none_ltree)))
  have mr : mg "repr" = none := mg_none_of X G z_repr
  have Hneed : HasX l.prog w K mg base "_needed_tree" 11 ["value"] (spNeedX K C N) := ⟨_, _, m_need, k_need, b_need, ok_needX F_need T TK (EN.1 base) F_treeof b_treeof m_treeof GTO⟩
  have GI := ok_tinitX F_tinit T TK Hneed Htext Hdepth Hkind Hleaves Hasc
  have Htold : HasG l.prog w K mg base "_law_told" 14 ["thing"] (spTold K C) := ⟨_, _, m_told, k_told, b_told, ok_told F_told T mr TK (EN.1 base) EN.2 ex (mg_of X G aTE) kTE ⟨mk, a_tinit, i_tinit, kc⟩ b_tinit GI ⟨_, _, a_tstr, i_tstr, b_tstr, ok_tstr F_tstr T TK⟩⟩
  have Hdue : HasG l.prog w K mg base "_law_due" 163 ["text"] (spDue 162) := ⟨_, _, m_due, k_due, b_due, ok_due (R := 162) F_due T mr (by decide) (by decide) F_read b_read m_read F_ldeep b_ldeep m_ldeep⟩
  have Hltext : Has l.prog w K mg base "_law_tree_text" 4 ["tree"] (spText 4) := .mk F_ltext m_ltext b_ltext (ok_ltext F_ltext T b_ltext m_ltext (ok_ltext F_ltext T b_ltext m_ltext (ok_ltext F_ltext T b_ltext m_ltext (ok_ltext F_ltext T b_ltext m_ltext none_text))))
  have Hbent : Has l.prog w K mg base "_law_bent" 3 ["pool", "text"] spBent := .mk F_bent m_bent b_bent (ok_bent F_bent T Htake Hone)
  exact ok_law F_law ⟨T, U, mr, TK, ⟨kNon, kLst, kDct, kBool⟩, Htold, Hdue, Hbent, Hltext, Hpool, Htake, Hwords, Hltree⟩
theorem file_ok : ((PySem.Challenge.pw_tiedsteps_k02_texts_that_are_no_terms.main.file : Str) == ("/claim/cut.py" : Str)) = true := by decide +kernel
theorem top_ok : (PySem.Challenge.pw_tiedsteps_k02_texts_that_are_no_terms.main.scope.names.lookup ("super" : Str)).isSome = false := by decide +kernel
end TS
open PySem PySem.W PyProof.Rows
set_option maxRecDepth 100000 in
set_option maxHeartbeats 0 in
theorem PySem.Challenge.cw_tiedsteps_k02_texts_that_are_no_terms_holds : PySem.Challenge.rw_tiedsteps_k02_texts_that_are_no_terms.Holds := by
  w_on; o_law; k_head; (case hw => w_witness2)
  k_fill
  refine TS.walkG (k := 164) (l := PySem.Challenge.rw_tiedsteps_k02_texts_that_are_no_terms) rfl rfl ⟨rfl, by decide, by decide⟩ (fun w h Y => PySem.W.kIn_of Y) ?F
  case F =>
    intro w mg fa h KX G hmg
    refine' TS.errC_mk (P := PySem.Challenge.pw_tiedsteps_k02_texts_that_are_no_terms) (w := w) (x := "NoTerm") (arg := "value") (qual := "NoTerm.__init__") KX G TS.valBase TS.ao_value TS.file_ok TS.top_ok ?yhn ?yhtk ?yho ?ysu ?yaC ?yxL ?yxT ?ysa ?yexC ?ytyC ?ykC ?yga ?ygg ?yhd ?yhc ?yha ?ymo ?yno ?yiC ?ytI ?ylk ?ylc ?yfl ?yle ?yms ?ycd ?ysi ?ysB ?ySO ?ypb ?_
    (case yhn => k_is); (case yhtk => k_is); (case yho => k_is); (case ysu => k_is); (case yaC => k_is); (case yxL => k_is); (case yxT => rfl); (case ysa => k_is)
    (case yexC => k_is); (case ytyC => k_is); (case ykC => k_is); (case yga => k_is); (case ygg => k_is); (case yhd => k_is); (case yhc => k_is); (case yha => k_is)
    (case ymo => k_is); (case yno => k_is); (case yiC => k_is); (case ytI => k_is); (case ylk => k_is); (case ylc => k_is); (case yfl => rfl); (case yle => k_is)
    (case yms => k_is); (case ycd => k_is); (case ysi => kernel_rfl); (case ysB => k_is); (case ySO => exact fun env => ⟨_, rfl⟩); (case ypb => exact fun _ _ => rfl)
    intro EN
    refine' TS.all_mk (l := PySem.Challenge.rw_tiedsteps_k02_texts_that_are_no_terms) KX G hmg EN ?yaC ?ypg ?yhd ?ypo ?ysa ?ymk ?ykc ?yn1 ?yn2 ?yn3 ?yn4 ?yn5 ?yn6 ?yn7 ?yha ?yhn ?yhtk ?yhm ?ykC ?ykStr ?ykInt ?ykTup ?ykCS ?yex ?ykNon ?ykLst ?ykDct ?ykBool ?yaTE ?ykTE ?ya_num ?yl_num ?yc_num ?yk_num ?ya_asc ?yl_asc ?yc_asc ?yk_asc ?ya_word ?yl_word ?yc_word ?yk_word ?ya_choice ?yl_choice ?yc_choice ?yk_choice ?ya_tree ?yl_tree ?yc_tree ?yk_tree ?ya_ttext ?yl_ttext ?yc_ttext ?yk_ttext ?ya_treeof ?yl_treeof ?yc_treeof ?yk_treeof ?ya_need ?yl_need ?yc_need ?yk_need ?ya_text ?yl_text ?yc_text ?yk_text ?ya_depth ?yl_depth ?yc_depth ?yk_depth ?ya_kind ?yl_kind ?yc_kind ?yk_kind ?ya_leaves ?yl_leaves ?yc_leaves ?yk_leaves ?ya_pool ?yl_pool ?yc_pool ?yk_pool ?ya_take ?yl_take ?yc_take ?yk_take ?ya_one ?yl_one ?yc_one ?yk_one ?ya_words ?yl_words ?yc_words ?yk_words ?ya_ltree ?yl_ltree ?yc_ltree ?yk_ltree ?ya_ltext ?yl_ltext ?yc_ltext ?yk_ltext ?ya_ldeep ?yl_ldeep ?yc_ldeep ?yk_ldeep ?ya_read ?yl_read ?yc_read ?yk_read ?ya_due ?yl_due ?yc_due ?yk_due ?ya_told ?yl_told ?yc_told ?yk_told ?ya_bent ?yl_bent ?yc_bent ?yk_bent ?ya_law ?yl_law ?yc_law ?yk_law ?ya_tinit ?yi_tinit ?yl_tinit ?yc_tinit ?yk_tinit ?ya_tstr ?yi_tstr ?yl_tstr ?yc_tstr ?yk_tstr ?yz_isinstance ?yz_tuple ?yz_str ?yz_int ?yz_bool ?yz_max ?yz_set ?yz_sorted ?yz_len ?yz_any ?yz_range ?yz_list ?yz_min ?yz_enumerate ?yz_repr ?yv_LETTERS ?yv_DIGITS ?yv_PART_SIGNS ?yv_MOST_LETTERS ?yv_MOST_DEPTH ?yv_MOST_CONSTANT
    (case yaC => k_is); (case ypg => k_is); (case yhd => k_is); (case ypo => k_is); (case ysa => k_is); (case ymk => k_is)
    (case ykc => k_is); (case yn1 => k_is); (case yn2 => k_is); (case yn3 => k_is); (case yn4 => k_is); (case yn5 => k_is)
    (case yn6 => k_is); (case yn7 => k_is); (case yha => k_is); (case yhn => k_is); (case yhtk => k_is); (case yhm => k_is)
    (case ykC => kernel_rfl); (case ykStr => kernel_rfl); (case ykInt => kernel_rfl); (case ykTup => kernel_rfl); (case ykCS => kernel_rfl); (case yex => kernel_rfl)
    (case ykNon => kernel_rfl); (case ykLst => kernel_rfl); (case ykDct => kernel_rfl); (case ykBool => kernel_rfl); (case yaTE => k_is); (case ykTE => kernel_rfl)
    (case ya_num => k_is); (case yl_num => k_is); (case yc_num => k_is); (case yk_num => k_is); (case ya_asc => k_is); (case yl_asc => k_is)
    (case yc_asc => k_is); (case yk_asc => k_is); (case ya_word => k_is); (case yl_word => k_is); (case yc_word => k_is); (case yk_word => k_is)
    (case ya_choice => k_is); (case yl_choice => k_is); (case yc_choice => k_is); (case yk_choice => k_is); (case ya_tree => k_is); (case yl_tree => k_is)
    (case yc_tree => k_is); (case yk_tree => k_is); (case ya_ttext => k_is); (case yl_ttext => k_is); (case yc_ttext => k_is); (case yk_ttext => k_is)
    (case ya_treeof => k_is); (case yl_treeof => k_is); (case yc_treeof => k_is); (case yk_treeof => k_is); (case ya_need => k_is); (case yl_need => k_is)
    (case yc_need => k_is); (case yk_need => k_is); (case ya_text => k_is); (case yl_text => k_is); (case yc_text => k_is); (case yk_text => k_is)
    (case ya_depth => k_is); (case yl_depth => k_is); (case yc_depth => k_is); (case yk_depth => k_is); (case ya_kind => k_is); (case yl_kind => k_is)
    (case yc_kind => k_is); (case yk_kind => k_is); (case ya_leaves => k_is); (case yl_leaves => k_is); (case yc_leaves => k_is); (case yk_leaves => k_is)
    (case ya_pool => k_is); (case yl_pool => k_is); (case yc_pool => k_is); (case yk_pool => k_is); (case ya_take => k_is); (case yl_take => k_is)
    (case yc_take => k_is); (case yk_take => k_is); (case ya_one => k_is); (case yl_one => k_is); (case yc_one => k_is); (case yk_one => k_is)
    (case ya_words => k_is); (case yl_words => k_is); (case yc_words => k_is); (case yk_words => k_is); (case ya_ltree => k_is); (case yl_ltree => k_is)
    (case yc_ltree => k_is); (case yk_ltree => k_is); (case ya_ltext => k_is); (case yl_ltext => k_is); (case yc_ltext => k_is); (case yk_ltext => k_is)
    (case ya_ldeep => k_is); (case yl_ldeep => k_is); (case yc_ldeep => k_is); (case yk_ldeep => k_is); (case ya_read => k_is); (case yl_read => k_is)
    (case yc_read => k_is); (case yk_read => k_is); (case ya_due => k_is); (case yl_due => k_is); (case yc_due => k_is); (case yk_due => k_is)
    (case ya_told => k_is); (case yl_told => k_is); (case yc_told => k_is); (case yk_told => k_is); (case ya_bent => k_is); (case yl_bent => k_is)
    (case yc_bent => k_is); (case yk_bent => k_is); (case ya_law => k_is); (case yl_law => k_is); (case yc_law => k_is); (case yk_law => k_is)
    (case ya_tinit => k_is); (case yi_tinit => k_is); (case yl_tinit => k_is); (case yc_tinit => k_is); (case yk_tinit => k_is); (case ya_tstr => k_is)
    (case yi_tstr => k_is); (case yl_tstr => k_is); (case yc_tstr => k_is); (case yk_tstr => k_is); (case yz_isinstance => k_is); (case yz_tuple => k_is)
    (case yz_str => k_is); (case yz_int => k_is); (case yz_bool => k_is); (case yz_max => k_is); (case yz_set => k_is); (case yz_sorted => k_is)
    (case yz_len => k_is); (case yz_any => k_is); (case yz_range => k_is); (case yz_list => k_is); (case yz_min => k_is); (case yz_enumerate => k_is)
    (case yz_repr => k_is); (case yv_LETTERS => k_is); (case yv_DIGITS => k_is); (case yv_PART_SIGNS => k_is); (case yv_MOST_LETTERS => k_is); (case yv_MOST_DEPTH => k_is)
    (case yv_MOST_CONSTANT => k_is)
#print axioms PySem.Challenge.cw_tiedsteps_k02_texts_that_are_no_terms_holds
