import PyProof.Rows.All
import Wide.All
import OpenK.AllK
import Wide.FinOn
import HandS.ForMost
import HandS.Set
import HandS.Strs
import HandS.IsInst
import HandS.FStr
import HandS.TryOnly
import HandS.RaiseMore
import HandS.OwnEq
import HandS.More
import KE.KCallOwn
import OpenK.KOps
import PyProof.InstNe
import HandS.Property
import HandS.Evl
import HandS.Walk
import HandS.ForDict
import HandS.ForExc
import HandS.ExcInit
import KE.KExcSuper
import HandS.ExcField
import HandS.ClsMeth
import HandS.CallSlots
import KE.KExcIs
import HandS.TryMany
import PyProof.ReprLen
import PyProof.Rows.ReprOcc
import PyProof.Rows.RegStrFacts
import HandS.ListItems
import HandS.DictComp
import PySem.Challenge.RW_tiedsteps_k03_whole_values_of_terms
set_option Elab.async false
set_option linter.all false
set_option maxRecDepth 100000
set_option maxHeartbeats 4000000
namespace TS
open PySem PySem.Spec PyProof.Rows L2
/-! sets of keys of one kind, with what is needed to walk them: set(xs), sorted(set) -/
section
variable {P : Program} {w : World} {κ : Type} [DecidableEq κ] {kd : KeyKind P w κ}
/-- an entry that holds the key k -/
def Holds1 (kd : KeyKind P w κ) (e : Int × Value) (k : κ) : Prop := kd.is k e.2 = true ∧ e.1 = kd.hash k ∧ e.2.scannable = true
theorem paired_perm {α β : Type} {R : α → β → Prop} : ∀ {l l' : List α}, l'.Perm l → ∀ {js : List β}, Paired R l js → ∃ js', Paired R l' js' ∧ js'.Perm js := by
  intro l l' p
  induction p with
  | nil => exact fun {js} h => ⟨js, h, .refl _⟩
  | cons x _ ih =>
    intro js h
    cases h with
    | cons h1 h2 =>
      obtain ⟨js', g, q⟩ := ih h2
      exact ⟨_ :: js', .cons h1 g, q.cons _⟩
  | swap x y l =>
    intro js h
    cases h with
    | cons h1 h2 =>
      cases h2 with
      | cons h3 h4 => exact ⟨_, .cons h3 (.cons h1 h4), .swap _ _ _⟩
  | trans _ _ ih1 ih2 =>
    intro js h
    obtain ⟨js1, g1, q1⟩ := ih2 h
    obtain ⟨js2, g2, q2⟩ := ih1 g1
    exact ⟨js2, g2, q2.trans q1⟩
theorem paired_elems : ∀ {l : List (Int × Value)} {js : List κ}, Paired (Holds1 kd) l js → ElemsOf kd l
  | _, _, .nil => fun e he => by cases he
  | _, _, .cons h r => fun e he => by
    rcases List.mem_cons.mp he with rfl | he
    · exact ⟨⟨_, h.1, h.2.1⟩, h.2.2⟩
    · exact paired_elems r e he
theorem paired_mem {k : κ} : ∀ {l : List (Int × Value)} {js : List κ}, Paired (Holds1 kd) l js → (k ∈ js ↔ ∃ e ∈ l, kd.is k e.2 = true)
  | _, _, .nil => by simp
  | _, _, .cons (a := e) (b := j) h r => by
    rw [List.mem_cons, paired_mem r]
    constructor
    · rintro (rfl | ⟨e', he, z⟩)
      · exact ⟨e, List.mem_cons_self, h.1⟩
      · exact ⟨e', List.mem_cons_of_mem _ he, z⟩
    · rintro ⟨e', he, z⟩
      rcases List.mem_cons.mp he with rfl | he
      · exact .inl (kd.inj _ _ _ z h.1)
      · exact .inr ⟨e', he, z⟩
/-- a set of the keys ks at a -/
def SetX (kd : KeyKind P w κ) (h : Heap) (a : Addr) (ks : List κ) : Prop :=
  ∃ o es ep t js, h.get? a = some o ∧ o.ExactSet ∧ o.data = .set es ep t ∧ Paired (Holds1 kd) es.toList js ∧ js.Perm ks ∧ ks.Nodup ∧ es.size < scanBound ∧ t.fits es.size = true ∧ Ris t.place.toList ∧
    (w.params.followText "set-order" = true ∨ t.led = true)
theorem SetX.keep {h h' : Heap} {a : Addr} {ks : List κ} (R : SetX kd h a ks) (z : ∀ o, h.get? a = some o → h'.get? a = some o) : SetX kd h' a ks := by
  obtain ⟨o, es, ep, t, js, ho, r⟩ := R
  exact ⟨o, es, ep, t, js, z o ho, r⟩
theorem paired_len {α β : Type} {R : α → β → Prop} : ∀ {l : List α} {js : List β}, Paired R l js → l.length = js.length
  | _, _, .nil => rfl
  | _, _, .cons _ r => by rw [List.length_cons, List.length_cons, paired_len r]
section
variable {A : Around} {E : Value → Shared → Prop} {s : Shared} {a : Addr} {ks : List κ}
theorem setX_put {gw : Bool → Sem Unit} (hg : ∀ (b : Bool) (s1 : Shared) (Q' : Unit → Shared → Prop), Q' () s1 → wpAny (model P w) A (gw b) Q' E s1)
    {o : Obj} {es : Array (Int × Value)} {ep : Nat} {t : SetTable} (ho : s.heap.get? a = some o) (hex : o.ExactSet) (hd : o.data = .set es ep t)
    {es1 : Array (Int × Value)} {t2 : SetTable} {js1 : List κ} (pj : Paired (Holds1 kd) es1.toList js1) (pk : js1.Perm ks) (nd : ks.Nodup)
    (hb1 : es1.size < scanBound) (hf2 : t2.fits es1.size = true) (hr : Ris t2.place.toList) (hl : w.params.followText "set-order" = true ∨ t2.led = true) {wasDummy : Bool} {R : Option Bool → Shared → Prop}
    (hR : ∀ h', Heap.SameBut a s.heap h' → SetX kd h' a ks → R (some true) { s with heap := h' }) :
    wpAny (model P w) A (do
        storeSet a es1 t2
        if (!wasDummy && t2.tooFull) = true then do
            gw (relayAll t2 es1 (SetTable.grown es1.size)).2.2
            storeSet a (relayAll t2 es1 (SetTable.grown es1.size)).1 (relayAll t2 es1 (SetTable.grown es1.size)).2.1
            pure (some true)
          else pure (some true)) R E s := by
  refine wpAny_bind (wpAny_storeSet_of ho hd ?_ (fits_of_scanBound hb1))
  have ho1 := L2.store_at (es' := es1) (t' := t2) ho hd
  have same1 := Heap.SameBut.update s.heap a (Obj.putSet es1 t2)
  split
  · have pm := relayAll_perm t2 es1 (SetTable.grown es1.size)
    have g1 := relayAll_fits t2 es1 (SetTable.grown es1.size)
    have g2 := relayAll_ris t2 es1 (SetTable.grown es1.size)
    have g3 := relayAll_led t2 es1 (SetTable.grown es1.size)
    generalize relayAll t2 es1 (SetTable.grown es1.size) = Z at pm g1 g2 g3 ⊢
    obtain ⟨es2, t3, gave⟩ := Z
    dsimp only at pm g1 g2 g3 ⊢
    have hsz : es2.size = es1.size := by
      rw [← Array.length_toList, pm.length_eq, Array.length_toList]
    have hb2 : es2.size < scanBound := by
      rw [hsz]
      exact hb1
    refine wpAny_bind (hg _ _ _ ?_)
    refine wpAny_bind (wpAny_storeSet_of ho1 rfl ?_ (fits_of_scanBound hb2))
    have ho2 := L2.store_at (es' := es2) (t' := t3) ho1 rfl
    obtain ⟨js2, pj2, pk2⟩ := paired_perm pm pj
    refine wpAny_pure (hR _ (same1.trans (Heap.SameBut.update _ a _)) ?_)
    exact ⟨_, es2, _, t3, js2, ho2, hex, rfl, pj2, pk2.trans pk, nd, hb2, g1, g2, hl.imp id fun z => by
      rw [g3]
      exact z⟩
  · exact wpAny_pure (hR _ same1 ⟨_, es1, _, t2, js1, ho1, hex, rfl, pj, pk, nd, hb1, hf2, hr, hl⟩)
/-- one key put in -/
theorem setX_add {k : κ} {x : Value} {Q : Bool → Shared → Prop} (hx : kd.is k x = true) (hsc : x.scannable = true) (R : SetX kd s.heap a ks) (room : ks.length + 1 < scanBound)
    (hQ : ∀ b h', Heap.SameBut a s.heap h' → SetX kd h' a (if k ∈ ks then ks else k :: ks) → Q b { s with heap := h' }) :
    wpAny (model P w) A (setAddHashed a x (kd.hash k)) Q E s := by
  obtain ⟨o, es, ep, t, js, ho, hex, hd, pj, pk, nd, hb, hf, hr, hl⟩ := R
  have hel : ElemsOf kd es.toList := paired_elems pj
  have hn : es.size = ks.length := by
    rw [← Array.length_toList, paired_len pj, pk.length_eq]
  unfold setAddHashed setAddHashedIn
  refine wpAny_holding (wpAny_bind (wpAny_setState_of ho hd hf ?_))
  dsimp only
  rw [byScan_of hsc hb hel]
  simp only [↓reduceIte]
  unfold setAddByScan
  refine wpAny_bind ?_
  refine wpAny_bind (wpAny_rule ?_)
  refine wpAny_bind (wpAny_setScan_of hx ho hd hf hel ?_)
  cases hfi : List.findIdx? (fun e => kd.is k e.2) es.toList with
  | some j =>
    dsimp only
    obtain ⟨hj, z, _⟩ := List.findIdx?_eq_some_iff_getElem.mp hfi
    have hk : k ∈ ks := pk.mem_iff.mp ((paired_mem pj).mpr ⟨es.toList[j], List.getElem_mem hj, z⟩)
    refine wpAny_pure (wpAny_pure ?_)
    refine hQ _ s.heap (Heap.SameBut.refl a s.heap) ?_
    rw [if_pos hk]
    exact ⟨o, es, ep, t, js, ho, hex, hd, pj, pk, nd, hb, hf, hr, hl⟩
  | none =>
    dsimp only
    have hk : k ∉ ks := fun z => by
      obtain ⟨e, he, y⟩ := (paired_mem pj).mp (pk.mem_iff.mpr z)
      have c := List.findIdx?_eq_none_iff.mp hfi e he
      rw [y] at c
      cases c
    have giv : ∀ (b : Bool) {s1 : Shared} {Q' : Unit → Shared → Prop}, Q' () s1 → wpAny (model P w) A (match b with | true => rule "set.scan.the-table-gave-way" | false => pure ()) Q' E s1 := fun b s1 Q' z => by
      cases b
      · exact wpAny_pure z
      · exact wpAny_rule z
    have pm := layNew_perm t es (kd.hash k) x
    have f1 := layNew_fits t es (kd.hash k) x
    have r1 := layNew_ris t es (kd.hash k) x hr
    have l1 := layNew_led t es (kd.hash k) x
    generalize layNew t es (kd.hash k) x = Z at pm f1 r1 l1 ⊢
    obtain ⟨es1, t1, wasDummy, gave⟩ := Z
    dsimp only at pm f1 r1 l1 ⊢
    rw [Array.toList_push] at pm
    have pc : es1.toList.Perm ((kd.hash k, x) :: es.toList) := pm.trans (List.perm_append_singleton _ _)
    obtain ⟨js1, pj1, pk1⟩ := paired_perm pc (js := k :: js) (.cons ⟨hx, rfl, hsc⟩ pj)
    have pk2 : js1.Perm (k :: ks) := pk1.trans (pk.cons k)
    have nd1 : (k :: ks).Nodup := List.nodup_cons.mpr ⟨hk, nd⟩
    have hb1 : es1.size < scanBound := by
      rw [← Array.length_toList, pc.length_eq, List.length_cons, Array.length_toList, hn]
      exact room
    have led : w.params.followText "set-order" = true ∨ t1.led = true := hl.imp id fun z => by
      rw [l1]
      exact z
    have fin : ∀ b h', Heap.SameBut a s.heap h' → SetX kd h' a (k :: ks) → Q b { s with heap := h' } := fun b h' sb r => by
      have z := hQ b h' sb
      rw [if_neg hk] at z
      exact z r
    refine wpAny_bind (giv _ ?_)
    split
    · refine wpAny_bind ?_
      rw [hashByValue_scannable 8 hsc]
      refine wpAny_pure ?_
      refine setX_put ?_ ho hex hd pj1 pk2 nd1 hb1 ?_ ?_ ?_ ?_
      · exact fun b s1 Q' z => giv b z
      · first | (split <;> first | exact f1 | exact SetTable.fits_plain_off f1) | exact f1
      · first | (split <;> exact r1) | exact r1
      · first | (split <;> exact led) | exact led
      · intro h' sb r
        dsimp only
        exact wpAny_pure (fin _ h' sb r)
    · refine wpAny_bind (wpAny_pure ?_)
      simp only [↓reduceIte]
      refine setX_put ?_ ho hex hd pj1 pk2 nd1 hb1 f1 r1 led ?_
      · exact fun b s1 Q' z => giv b z
      · intro h' sb r
        dsimp only
        exact wpAny_pure (fin _ h' sb r)
end
/-- a key more, if it is not there -/
def put1 (ks : List κ) (k : κ) : List κ := if k ∈ ks then ks else k :: ks
theorem put1_len (ks : List κ) (k : κ) : (put1 ks k).length ≤ ks.length + 1 := by
  unfold put1
  split
  · exact Nat.le_succ _
  · exact Nat.le_refl _
/-- the keys of a list, each once -/
def once (l : List κ) : List κ := l.foldl put1 []
theorem once_snoc (l : List κ) (k : κ) : once (l ++ [k]) = put1 (once l) k := by
  unfold once
  rw [List.foldl_append]
  rfl
theorem fold_len (l : List κ) : ∀ acc : List κ, (l.foldl put1 acc).length ≤ acc.length + l.length := by
  induction l with
  | nil => exact fun acc => Nat.le_refl _
  | cons x l ih =>
    intro acc
    have z := ih (put1 acc x)
    have y := put1_len acc x
    rw [List.foldl_cons, List.length_cons]
    omega
theorem once_len (l : List κ) : (once l).length ≤ l.length := by
  have z := fold_len l []
  simpa [once] using z
theorem fold_mem (l : List κ) (k : κ) : ∀ acc : List κ, k ∈ l.foldl put1 acc ↔ k ∈ acc ∨ k ∈ l := by
  induction l with
  | nil => exact fun acc => by simp
  | cons x l ih =>
    intro acc
    rw [List.foldl_cons, ih, List.mem_cons]
    unfold put1
    split
    · rename_i hx
      constructor
      · rintro (z | z)
        · exact .inl z
        · exact .inr (.inr z)
      · rintro (z | rfl | z)
        · exact .inl z
        · exact .inl hx
        · exact .inr z
    · rw [List.mem_cons]
      constructor
      · rintro ((z | z) | z)
        · exact .inr (.inl z)
        · exact .inl z
        · exact .inr (.inr z)
      · rintro (z | z | z)
        · exact .inl (.inr z)
        · exact .inl (.inl z)
        · exact .inr z
theorem once_mem (l : List κ) (k : κ) : k ∈ once l ↔ k ∈ l := by
  unfold once
  rw [fold_mem]
  simp
section
variable {A : Around} {R : Result → Shared → Prop} {I : Addr} {fp wr : List Addr} {G : Array GenState → Array GenState → Prop} {n : Nat} {Pv : Nat → Value → Prop} {St : Nat → Shared → Prop}
theorem loopX (W : WalksS P w A.in1 I fp wr G n Pv St) (S : Addr) (hSf : S ∉ fp) (keys : List κ) (hkl : keys.length = n) (hval : ∀ i v, Pv i v → ∃ k, keys[i]? = some k ∧ kd.is k v = true ∧ v.scannable = true) (hb : n + 1 < scanBound) :
    ∀ (m i : Nat) (s : Shared), n - i = m → i ≤ n → St i s → SetX kd s.heap S (once (keys.take i)) →
      (∀ s', Moved (S :: wr) G s s' → SetX kd s'.heap S (once keys) → R (.ok (.ret .none)) s') →
      codeAny (model P w) A (.builtin "set.update.loop" ⟨[.ref S, .ref I], []⟩) R s := by
  have hSw : S ∉ wr := fun z => hSf (W.sub _ z)
  have more : ∀ b ∈ wr, b ∈ S :: wr := fun b z => List.mem_cons_of_mem _ z
  intro m
  induction m with
  | zero =>
    intro i s hm hi hst hS hR
    obtain rfl : i = n := by omega
    refine codeAny_builtin PyProof.Rows.F.entry_set_update_loop ?_
    rw [Around.under_plainId PyProof.Rows.F.plain_set_update_loop _]
    show wpAny _ A.in1 (pyNext (.ref I) >>= _) _ _ s
    refine wpAny_bind (W.done s _ _ hst fun s' mv => ?_)
    show wpAny _ A.in1 (ret Value.none) _ _ s'
    refine wpAny_pure (hR s' (mv.mono more) ?_)
    rw [List.take_of_length_le (by omega)] at hS
    exact hS.keep fun o z => mv.heap S _ hSw z
  | succ m ih =>
    intro i s hm hi hst hS hR
    have hlt : i < n := by omega
    refine codeAny_builtin PyProof.Rows.F.entry_set_update_loop ?_
    rw [Around.under_plainId PyProof.Rows.F.plain_set_update_loop _]
    show wpAny _ A.in1 (pyNext (.ref I) >>= _) _ _ s
    refine wpAny_bind (W.item i s _ _ hlt hst fun v s' hP hst' mv => ?_)
    obtain ⟨k, hk, his, hsc⟩ := hval i v hP
    have hS' : SetX kd s'.heap S (once (keys.take i)) := hS.keep fun o z => mv.heap S _ hSw z
    show wpAny _ A.in1 (holding [v] (setAdd S v) >>= _) _ _ s'
    refine wpAny_bind (wpAny_holding ?_)
    unfold setAdd
    refine wpAny_holding ?_
    refine wpAny_bind (kd.pyHash (k := k) his ?_)
    have room : (once (keys.take i)).length + 1 < scanBound := by
      have z := once_len (keys.take i)
      rw [List.length_take] at z
      omega
    refine setX_add (s := { s' with toks := s'.toks + 1 }) his hsc hS' room fun b h' sb S2 => ?_
    have S3 : SetX kd h' S (once (keys.take (i + 1))) := by
      rw [List.take_succ, hk]
      show SetX kd h' S (once (keys.take i ++ [k]))
      rw [once_snoc]
      exact S2
    refine wpAny_pure ⟨plainId_quiet PyProof.Rows.F.plain_set_update_loop _, ih (i + 1) _ (by omega) hlt (W.frame _ s' _ _ hst' (Nat.le_succ _) fun b hb o z => ?_) S3 fun s'' mv2 S4 => ?_⟩
    · rw [sb.2 b (fun y : b = S => hSf (by rw [← y]; exact hb))]
      exact z
    · refine hR s'' (Moved.trans W.gtrans ((mv.mono more).then_heap (Nat.le_succ _) fun b o hb z => ?_) mv2) S4
      rw [sb.2 b (fun y : b = S => hb (by rw [y]; exact List.mem_cons_self))]
      exact z
end
end
end TS
namespace TS
open PySem PySem.Spec PyProof.Rows L2
abbrev setObj (w : World) : Obj := { cls := .type "set", dict := none, data := .set #[] 0 (.fresh 0 0 (!w.params.followText "set-order")) }
section
variable {P : Program} {w : World} {A : Around} {E : Value → Shared → Prop} {s : Shared}
theorem new_led (a : Value) {Q1 : Value → Shared → Prop} (h : Q1 (.ref s.heap.objs.size) { s with heap := s.heap.push (setObj w) }) :
    codeAny (model P w) A (.call (.builtin "set.__new__") ⟨[.type "set", a], []⟩) (wants Q1 E) s := by
  refine codeAny_of_tree ?_
  show wpAny _ A.in1 (do checkBuiltinCall "set.__new__" ⟨[.type "set", a], []⟩; again (.builtin "set.__new__" ⟨[.type "set", a], []⟩)) _ _ s
  refine wpAny_bind (wpAny_of_eq (PySem.F.newCall_set_1 a) (wpAny_pure ⟨plainId_quiet F.plain_set_new _, codeAny_builtin F.entry_set_new ?_⟩))
  rw [Around.under_plainId F.plain_set_new _]
  unfold Builtin.«set.__new__» Builtin.Frozenset.newClass
  have ss := sub_set_self
  obtain ⟨hp, g, d, tk, os⟩ := s
  dsimp only
  wp_walk
  refine wpAny_askSetting (wpAny_pure ?_)
  dsimp only
  simp only [newObj]
  refine wpAny_bind (wpAny_alloc (wpAny_pure ?_))
  exact wpAny_pure h
variable {κ : Type} [DecidableEq κ] {kd : KeyKind P w κ}
theorem setX_new {h : Heap} {a : Addr} (z : h.get? a = some (setObj w)) : SetX kd h a [] :=
  ⟨_, #[], 0, _, [], z, ⟨rfl, rfl, rfl⟩, rfl, .nil, .refl _, List.nodup_nil, by decide, by rfl, List.Pairwise.nil, by
    show _ ∨ (!w.params.followText "set-order") = true
    cases w.params.followText "set-order"
    · exact .inr rfl
    · exact .inl rfl⟩
/-- set(xs), xs a list of such keys -/
theorem call_setX {l : Addr} {items : Array Value} {keys : List κ} {Q : Value → Shared → Prop} (hh : A.handled = none) (hl : s.heap.IsList l items) (hkl : keys.length = items.size)
    (hval : ∀ (i : Nat) v, items[i]? = some v → ∃ k, keys[i]? = some k ∧ kd.is k v = true ∧ v.scannable = true) (hb : items.size + 1 < scanBound)
    (h : ∀ (h' : Heap) (tk : Nat), SetX kd h' s.heap.objs.size (once keys) → (∀ b o, b < s.heap.objs.size → s.heap.get? b = some o → h'.get? b = some o) → Q (.ref s.heap.objs.size) { s with heap := h', toks := tk }) :
    wpAny (model P w) A (call (.type "set") [.ref l]) Q E s := by
  obtain ⟨c, tl, hmro⟩ := F.called_set.mro
  have d1 := F.called_set.made
  have d2 := F.called_set.sub
  refine wpAny_call (codeAny_of_tree ?_)
  show wpAny _ _ (callAny (.type "set") _) _ _ _
  refine wpAny_pure ⟨Code.quiet_builtin _ (by decide +kernel), codeAny_builtin F.entry_type_call ?_⟩
  rw [Around.under_plain (weight_type_call_type "set" [.ref l] []) rfl]
  have d3 := F.called_set.notType
  have d4 := F.called_set.canCreate
  have d5 := PySem.F.typeCall_set_1 (.ref l)
  repeat (any_goals (first | assumption | wp_step))
  refine codeAny_mono (new_led (.ref l) (E := E) (Q1 := fun obj s1 => obj = .ref s.heap.objs.size ∧ s1 = { s with heap := s.heap.push (setObj w) }) ⟨rfl, rfl⟩) fun r s1 hr => ?_
  cases r with
  | error er => exact hr
  | ok fl =>
    cases fl with
    | next => exact hr.elim
    | brk => exact hr.elim
    | cont => exact hr.elim
    | ret obj =>
      obtain ⟨rfl, rfl⟩ := hr
      have hS : (s.heap.push (setObj w)).get? s.heap.objs.size = some (setObj w) := Heap.get?_push_size _ rfl
      have hT : Shared.TypeIs { s with heap := s.heap.push (setObj w) } (.ref s.heap.objs.size) "set" := ⟨_, hS, rfl⟩
      have e1 := F.called_set.init.lookup
      have e2 := F.called_set.init.bind (.ref s.heap.objs.size)
      repeat (any_goals (first | assumption | wp_step))
      refine codeAny_mono (codeAny_call_builtin (R := wants (fun r s2 => r = .none ∧ ∃ h' tk, s2 = { s with heap := h', toks := tk } ∧ SetX kd h' s.heap.objs.size (once keys) ∧ (∀ b o, b < s.heap.objs.size → s.heap.get? b = some o → h'.get? b = some o)) E)
        F.called_set.init.plain F.entry_set_init (check_set_init_1 hT ?_)) fun r2 s2 hr2 => ?_
      · obtain ⟨ol, hol, hcl, nl, hdl⟩ := hl
        obtain ⟨ocls, odict, odata, oslots⟩ := ol
        simp only at hcl hdl
        subst hcl
        subst hdl
        have hol1 : (s.heap.push (setObj w)).get? l = some { cls := .type "list", dict := odict, data := .seq items nl, slots := oslots } := Heap.get?_push_of_some _ hol
        have e3 := PySem.F.sub_list_set
        have e4 := PySem.F.sub_list_frozenset
        have e5 : (Value.type "list" == Value.type "dict") = false := by decide
        have hl1 : (s.heap.push (setObj w)).IsList l items := ⟨_, hol1, rfl, nl, rfl⟩
        unfold Builtin.«set.__init__» noKeywords Builtin.Frozenset.updateFrom
        generalize hPI : pyIter = PI
        wp_walk
        subst hPI
        refine wpAny_pyIter_list hl1 ?_
        refine wpAny_bind (wpAny_runValue ?_)
        have lS : l < s.heap.objs.size := Heap.lt_size hol
        have hh3 : A.in1.in1.in1.handled = none := by simp [hh]
        have neI : l ≠ (s.heap.push (setObj w)).objs.size := by
          rw [Heap.size_push]
          exact Nat.ne_of_lt (Nat.lt_succ_of_lt lS)
        have hSf : s.heap.objs.size ∉ [(s.heap.push (setObj w)).objs.size, l] := by
          rw [Heap.size_push]
          simp only [List.mem_cons, List.mem_singleton, List.not_mem_nil, or_false, not_or]
          exact ⟨Nat.ne_of_lt (Nat.lt_succ_self _), Nat.ne_of_gt lS⟩
        refine loopX (kd := kd) ((Walks.list hh3 _ l neI items).toS) s.heap.objs.size hSf keys hkl hval hb (items.size - 0) 0 _ (by omega) (Nat.zero_le _)
          ⟨⟨_, Heap.get?_push_size _ rfl, rfl, rfl⟩, (hl1.push _)⟩ (setX_new (Heap.get?_push_of_some _ hS)) ?_
        intro s' mv S'
        obtain ⟨h', g', d', tk', os'⟩ := s'
        obtain rfl : g' = s.gens := mv.gens
        obtain rfl : d' = s.drawn := mv.drawn
        obtain rfl : os' = s.os := mv.os
        show wpAny _ _ _ _ _ _
        refine wpAny_pure ?_
        show wpAny _ _ (ret Value.none) _ _ _
        refine wpAny_pure ⟨rfl, h', tk', rfl, S', fun b o hlt z => ?_⟩
        have b1 : b ≠ s.heap.objs.size := Nat.ne_of_lt hlt
        have b2 : b ≠ (s.heap.push (setObj w)).objs.size := by
          rw [Heap.size_push]
          exact Nat.ne_of_lt (Nat.lt_succ_of_lt hlt)
        refine mv.heap b o ?_ (Heap.get?_push_of_some _ (Heap.get?_push_of_some _ z))
        simp only [List.mem_cons, List.mem_singleton, List.not_mem_nil, or_false, not_or]
        exact ⟨b1, b2⟩
      · cases r2 with
        | error er => exact hr2
        | ok fl2 =>
          cases fl2 with
          | next => exact hr2.elim
          | brk => exact hr2.elim
          | cont => exact hr2.elim
          | ret r =>
            obtain ⟨rfl, h', tk, rfl, S', k'⟩ := hr2
            repeat (any_goals (first | assumption | wp_step))
            exact h _ _ S' k'
end
end TS
namespace TS
open PySem PySem.Spec PyProof.Rows L2
section
variable {P : Program} {w : World}
theorem paired_strs : ∀ {l : List (Int × Value)} {js : List Str}, Paired (Holds1 (PySem.strKind P w)) l js → StrsAre (l.map (·.2)) js
  | _, _, .nil => .nil
  | _, _, .cons h r => by
    obtain ⟨t, e⟩ := Value.isStrOf_shape (show Value.isStrOf _ _ = true from h.1)
    rw [List.map_cons, e]
    exact .cons _ t (paired_strs r)
theorem paired_ints : ∀ {l : List (Int × Value)} {js : List Int}, Paired (Holds1 (PySem.intKind P w)) l js → IntsAre (l.map (·.2)) js
  | _, _, .nil => .nil
  | _, _, .cons h r => by
    obtain ⟨t, e⟩ := Value.isInt_shape (show Value.isInt _ _ = true from h.1)
    rw [List.map_cons, e]
    exact .cons _ t (paired_ints r)
theorem strs_perm : ∀ {vs us : List Value}, vs.Perm us → ∀ {ss : List Str}, StrsAre us ss → ∃ ss', StrsAre vs ss' ∧ ss'.Perm ss := by
  intro vs us p
  induction p with
  | nil => exact fun {ss} h => ⟨ss, h, .refl _⟩
  | cons x _ ih =>
    intro ss h
    cases h with
    | cons y t h2 =>
      obtain ⟨js', g, q⟩ := ih h2
      exact ⟨_ :: js', .cons y t g, q.cons _⟩
  | swap x y l =>
    intro ss h
    cases h with
    | cons a t h2 =>
      cases h2 with
      | cons b u h4 => exact ⟨_, .cons b u (.cons a t h4), .swap _ _ _⟩
  | trans _ _ ih1 ih2 =>
    intro ss h
    obtain ⟨js1, g1, q1⟩ := ih2 h
    obtain ⟨js2, g2, q2⟩ := ih1 g1
    exact ⟨js2, g2, q2.trans q1⟩
theorem ints_perm : ∀ {vs us : List Value}, vs.Perm us → ∀ {ss : List Int}, IntsAre us ss → ∃ ss', IntsAre vs ss' ∧ ss'.Perm ss := by
  intro vs us p
  induction p with
  | nil => exact fun {ss} h => ⟨ss, h, .refl _⟩
  | cons x _ ih =>
    intro ss h
    cases h with
    | cons y t h2 =>
      obtain ⟨js', g, q⟩ := ih h2
      exact ⟨_ :: js', .cons y t g, q.cons _⟩
  | swap x y l =>
    intro ss h
    cases h with
    | cons a t h2 =>
      cases h2 with
      | cons b u h4 => exact ⟨_, .cons b u (.cons a t h4), .swap _ _ _⟩
  | trans _ _ ih1 ih2 =>
    intro ss h
    obtain ⟨js1, g1, q1⟩ := ih2 h
    obtain ⟨js2, g2, q2⟩ := ih1 g1
    exact ⟨js2, g2, q2.trans q1⟩
variable {A : Around} {E : Value → Shared → Prop} {s : Shared} {a : Addr}
/-- sorted(...) of such a set of texts -/
theorem sortX_strs {ks : List Str} {Q : Value → Shared → Prop} (R : SetX (PySem.strKind P w) s.heap a ks) (hh : A.handled = none) (h64 : ks.length < 64)
    (hQ : ∀ s' p (out : Array Value) (c : Nat) (ss : List Str), (∀ b o, s.heap.get? b = some o → s'.heap.get? b = some o) → s'.gens = s.gens → s'.os = s.os → s.heap.objs.size ≤ p →
      s'.heap.get? p = some (seqObj "list" out c) → StrsAre out.toList ss → ss.Perm ks → sortedS ss = true → Q (.ref p) s') :
    wpAny (model P w) A (call (.builtin "sorted") [.ref a]) Q E s := by
  obtain ⟨o, es, ep, t, js, ho, hex, hd, pj, pk, nd, hb, hf, hr, hl⟩ := R
  refine Calls.call_function_entry kind_sorted plain_sorted entry_sorted (args_sorted1 _) ?_
  unfold Builtin.«sorted»
  refine wpAny_bind (m := checkCount "sorted" 1 1 _) (wpAny_pure ?_)
  refine wpAny_bind (collect_set (A := A.in1) hh ⟨o, ho, hex.1, hd⟩ hf hb hr hl fun s1 vs k1 hz g1 o1 pm => ?_)
  obtain ⟨xs, hS, px⟩ := strs_perm pm (paired_strs pj)
  have hvl : vs.length = ks.length := by
    rw [pm.length_eq, List.length_map, paired_len pj, pk.length_eq]
  have hv6 : vs.length < 64 := by
    rw [hvl]
    exact h64
  refine wpAny_bind (wpAny_newList ?_ (Nat.le_trans (Nat.le_of_lt hv6) (by decide)))
  have at1 : (s1.heap.push (seqObj "list" vs.toArray 0)).get? s1.heap.objs.size = some (seqObj "list" vs.toArray 0) := Heap.get?_push_size _ rfl
  refine wpAny_bind (wpAny_holding (wpAny_call_entry slot_list_sort ⟨_, at1, rfl⟩ entry_list_sort (list_sort_treeK strKind_oneLt at1 hS.keysOf (fun v₁ v₂ rest e => keyKind_strs (by rw [← e]; exact hS)) hv6 fun st' hp hs => ⟨_, rfl, ?_⟩) (args_list_sort _)))
  obtain ⟨ys, g1', g2, g3⟩ := sorted_out_str hS hp hs
  obtain ⟨c, hc⟩ := sortedHeap_at (vs := vs) (out := (arrOf st').map (·.2)) at1
  refine wpAny_pure ⟨_, rfl, hQ _ s1.heap.objs.size ((arrOf st').map (·.2)) c ys (fun b u e => ?_) g1 o1 hz hc g1' (g2.trans (px.trans pk)) g3⟩
  have q := k1 b u e
  have lt := Heap.lt_size q
  show (sortedHeap (s1.heap.push (seqObj "list" vs.toArray 0)) s1.heap.objs.size vs _).get? b = some u
  rw [sortedHeap_old (Nat.ne_of_lt lt) (by rw [size_push']; exact Nat.lt_succ_of_lt lt)]
  exact Heap.get?_push_of_some _ q
/-- sorted(...) of such a set of numbers -/
theorem sortX_ints {ks : List Int} {Q : Value → Shared → Prop} (R : SetX (PySem.intKind P w) s.heap a ks) (hh : A.handled = none) (h64 : ks.length < 64)
    (hQ : ∀ s' p (out : Array Value) (c : Nat) (ss : List Int), (∀ b o, s.heap.get? b = some o → s'.heap.get? b = some o) → s'.gens = s.gens → s'.os = s.os → s.heap.objs.size ≤ p →
      s'.heap.get? p = some (seqObj "list" out c) → IntsAre out.toList ss → ss.Perm ks → ss.Pairwise (· ≤ ·) → Q (.ref p) s') :
    wpAny (model P w) A (call (.builtin "sorted") [.ref a]) Q E s := by
  obtain ⟨o, es, ep, t, js, ho, hex, hd, pj, pk, nd, hb, hf, hr, hl⟩ := R
  refine Calls.call_function_entry kind_sorted plain_sorted entry_sorted (args_sorted1 _) ?_
  unfold Builtin.«sorted»
  refine wpAny_bind (m := checkCount "sorted" 1 1 _) (wpAny_pure ?_)
  refine wpAny_bind (collect_set (A := A.in1) hh ⟨o, ho, hex.1, hd⟩ hf hb hr hl fun s1 vs k1 hz g1 o1 pm => ?_)
  obtain ⟨xs, hS, px⟩ := ints_perm pm (paired_ints pj)
  have hvl : vs.length = ks.length := by
    rw [pm.length_eq, List.length_map, paired_len pj, pk.length_eq]
  have hv6 : vs.length < 64 := by
    rw [hvl]
    exact h64
  refine wpAny_bind (wpAny_newList ?_ (Nat.le_trans (Nat.le_of_lt hv6) (by decide)))
  have at1 : (s1.heap.push (seqObj "list" vs.toArray 0)).get? s1.heap.objs.size = some (seqObj "list" vs.toArray 0) := Heap.get?_push_size _ rfl
  refine wpAny_bind (wpAny_holding (wpAny_call_entry slot_list_sort ⟨_, at1, rfl⟩ entry_list_sort (list_sort_tree at1 hS hv6 fun out ns' a1 a2 a3 => ⟨_, rfl, ?_⟩) (args_list_sort _)))
  obtain ⟨c, hc⟩ := sortedHeap_at (vs := vs) (out := out) at1
  refine wpAny_pure ⟨_, rfl, hQ _ s1.heap.objs.size out c ns' (fun b u e => ?_) g1 o1 hz hc a1 (a2.trans (px.trans pk)) a3⟩
  have q := k1 b u e
  have lt := Heap.lt_size q
  show (sortedHeap (s1.heap.push (seqObj "list" vs.toArray 0)) s1.heap.objs.size vs _).get? b = some u
  rw [sortedHeap_old (Nat.ne_of_lt lt) (by rw [size_push']; exact Nat.lt_succ_of_lt lt)]
  exact Heap.get?_push_of_some _ q
end
end TS
namespace TS
open PySem PySem.Spec PyProof.Rows L2
/-- a set of the texts ks at a -/
def SetS (P : Program) (w : World) (a : Addr) (ks : List Str) : HO := .ext fun h => SetX (PySem.strKind P w) h a ks
/-- a set of the numbers ks at a -/
def SetI (P : Program) (w : World) (a : Addr) (ks : List Int) : HO := .ext fun h => SetX (PySem.intKind P w) h a ks
section
variable {X : Cx}
theorem setS_new {P : Program} {w : World} {H : Hp} {h : Heap} {a : Addr} {ks : List Str} (R : SetX (PySem.strKind P w) h a ks) : ObjOk P w H h a (SetS P w a ks) := by
  have ⟨o, _, _, _, _, ho, _⟩ := R
  exact ⟨R, ⟨o, ho⟩, fun h1 h2 p k => SetX.keep p k⟩
theorem setI_new {P : Program} {w : World} {H : Hp} {h : Heap} {a : Addr} {ks : List Int} (R : SetX (PySem.intKind P w) h a ks) : ObjOk P w H h a (SetI P w a ks) := by
  have ⟨o, _, _, _, _, ho, _⟩ := R
  exact ⟨R, ⟨o, ho⟩, fun h1 h2 p k => SetX.keep p k⟩
theorem strs_keys {P : Program} {w : World} : ∀ {us : List Value} {ss : List Str}, StrsAre us ss → us.length = ss.length ∧ ∀ (i : Nat) v, us[i]? = some v → ∃ k, ss[i]? = some k ∧ (PySem.strKind P w).is k v = true ∧ v.scannable = true
  | _, _, .nil => ⟨rfl, fun i v e => by simp at e⟩
  | _, _, .cons y t r => by
    obtain ⟨h1, h2⟩ := strs_keys (P := P) (w := w) r
    refine ⟨by rw [List.length_cons, List.length_cons, h1], fun i v e => ?_⟩
    cases i with
    | zero =>
      have e2 : Value.str y t = v := by simpa using e
      subst e2
      exact ⟨y, rfl, PySem.strKind_is P w y t, rfl⟩
    | succ i => exact h2 i v (by simpa using e)
theorem ints_keys {P : Program} {w : World} : ∀ {us : List Value} {ss : List Int}, IntsAre us ss → us.length = ss.length ∧ ∀ (i : Nat) v, us[i]? = some v → ∃ k, ss[i]? = some k ∧ (PySem.intKind P w).is k v = true ∧ v.scannable = true
  | _, _, .nil => ⟨rfl, fun i v e => by simp at e⟩
  | _, _, .cons y t r => by
    obtain ⟨h1, h2⟩ := ints_keys (P := P) (w := w) r
    refine ⟨by rw [List.length_cons, List.length_cons, h1], fun i v e => ?_⟩
    cases i with
    | zero =>
      have e2 : Value.int y t = v := by simpa using e
      subst e2
      exact ⟨y, rfl, PySem.intKind_is P w y t, rfl⟩
    | succ i => exact h2 i v (by simpa using e)
/-- set(xs), a list of texts or of numbers -/
def rSetL (P : Program) (w : World) : List V → Hp → VK → Prop := fun vs H Q => ∃ (l : Addr) (xs : List V), vs = [V.ref l] ∧ Rd H l (.lst xs) ∧ xs.length + 1 < scanBound ∧
  ((∃ ss : List Str, xs = ss.map V.str ∧ ∀ p, H p = none → Q (.ref p) (upd H p (SetS P w p (once ss)))) ∨
   (∃ ns : List Int, xs = ns.map V.int ∧ ∀ p, H p = none → Q (.ref p) (upd H p (SetI P w p (once ns)))))
theorem cr_setL (hc : X.calm = true) : CallR X (.type "set") (rSetL X.prog X.w) := by
  intro pins s σ H vs us Q I r h
  obtain ⟨l, xs, rfl, hl, room, q⟩ := h
  rw [Vals.ref1 r]
  obtain ⟨hz, its, n, rv, hob⟩ := (show ObjOk X.prog X.w H s.heap l (.lst xs) from hl.ok I.hok)
  have hil : s.heap.IsList l its.toArray := ⟨_, hob, rfl, n, rfl⟩
  have hlen : its.length = xs.length := rv.length.symm
  rcases q with ⟨ss, rfl, q⟩ | ⟨ns, rfl, q⟩
  · obtain ⟨k1, k2⟩ := strs_keys (P := X.prog) (w := X.w) rv.strs
    refine call_setX (kd := PySem.strKind X.prog X.w) (keys := ss) (I.ok.hd hc) hil (by rw [List.size_toArray]; exact k1.symm) (fun i v e => k2 i v (by rw [List.getElem?_toArray] at e; exact e)) (by rw [List.size_toArray, hlen]; exact room) fun h' tk S' k => ?_
    exact ⟨.ref _, upd H s.heap.objs.size (SetS X.prog X.w s.heap.objs.size (once ss)), I.laid (t' := tk) (fun b u e => k b u (Heap.lt_size e) e) (Nat.le_refl _) (setS_new S'), rfl, q _ (I.hok.fresh (Nat.le_refl _))⟩
  · obtain ⟨k1, k2⟩ := ints_keys (P := X.prog) (w := X.w) rv.ints
    refine call_setX (kd := PySem.intKind X.prog X.w) (keys := ns) (I.ok.hd hc) hil (by rw [List.size_toArray]; exact k1.symm) (fun i v e => k2 i v (by rw [List.getElem?_toArray] at e; exact e)) (by rw [List.size_toArray, hlen]; exact room) fun h' tk S' k => ?_
    exact ⟨.ref _, upd H s.heap.objs.size (SetI X.prog X.w s.heap.objs.size (once ns)), I.laid (t' := tk) (fun b u e => k b u (Heap.lt_size e) e) (Nat.le_refl _) (setI_new S'), rfl, q _ (I.hok.fresh (Nat.le_refl _))⟩
/-- sorted(...) of such a set -/
def rSortX (P : Program) (w : World) : List V → Hp → VK → Prop := fun vs H Q => ∃ (a : Addr), vs = [V.ref a] ∧
  ((∃ ks : List Str, H a = some (SetS P w a ks) ∧ ks.length < 64 ∧ ∀ (ss : List Str) (p : Addr), ss.Perm ks → sortedS ss = true → H p = none → Q (.ref p) (upd H p (.lst (ss.map V.str)))) ∨
   (∃ ks : List Int, H a = some (SetI P w a ks) ∧ ks.length < 64 ∧ ∀ (ns : List Int) (p : Addr), ns.Perm ks → ns.Pairwise (· ≤ ·) → H p = none → Q (.ref p) (upd H p (.lst (ns.map V.int)))))
theorem cr_sortX (hc : X.calm = true) : CallR X (.builtin "sorted") (rSortX X.prog X.w) := by
  intro pins s σ H vs us Q I r h
  obtain ⟨a, rfl, h⟩ := h
  rw [Vals.ref1 r]
  rcases h with ⟨ks, ha, h64, q⟩ | ⟨ks, ha, h64, q⟩
  · refine sortX_strs ((I.hok a _ ha).1) (I.ok.hd hc) h64 fun s' p out c ss k g o hp hg hi pm hs => ?_
    have hlen : (ss.map V.str).length ≤ sizeLine := by
      rw [List.length_map, pm.length_eq]
      exact Nat.le_trans (Nat.le_of_lt h64) (by decide)
    have hn : H p = none := I.hok.fresh hp
    have J : Inv X pins σ (upd H p (.lst (ss.map V.str))) s' :=
      I.call' (ch := []) o (Un.laid k hp hn) (I.hok.laid k hp ⟨hlen, out.toList, c, vals_of_strs hi, hg⟩) (by rw [g]; exact I.bare) (fun _ z => nomatch z)
    exact ⟨.ref p, _, J, rfl, q ss p pm hs hn⟩
  · refine sortX_ints ((I.hok a _ ha).1) (I.ok.hd hc) h64 fun s' p out c ss k g o hp hg hi pm hs => ?_
    have hlen : (ss.map V.int).length ≤ sizeLine := by
      rw [List.length_map, pm.length_eq]
      exact Nat.le_trans (Nat.le_of_lt h64) (by decide)
    have hn : H p = none := I.hok.fresh hp
    have J : Inv X pins σ (upd H p (.lst (ss.map V.int))) s' :=
      I.call' (ch := []) o (Un.laid k hp hn) (I.hok.laid k hp ⟨hlen, out.toList, c, vals_of_ints hi, hg⟩) (by rw [g]; exact I.bare) (fun _ z => nomatch z)
    exact ⟨.ref p, _, J, rfl, q ss p pm hs hn⟩
end
end TS
namespace TS
open PySem L2
/-! trees of terms: words, digits, choices; what stands for them in the heap -/
inductive Tr where
  | num (n : Int)
  | wd (x : Str)
  | ch (a b c d : Tr)
def Tr.deep : Tr → Nat
  | .num _ => 1
  | .wd _ => 1
  | .ch a b c d => 1 + max (max a.deep b.deep) (max c.deep d.deep)
def Tr.text : Tr → Str
  | .num n => toString n
  | .wd x => x
  | .ch a b c d => Str.empty ++ "(" ++ a.text ++ "=" ++ b.text ++ "?" ++ c.text ++ ":" ++ d.text ++ ")"
/-- its constants are of one sign -/
def Tr.small : Tr → Prop
  | .num n => 0 ≤ n ∧ n ≤ 9
  | .wd _ => True
  | .ch a b c d => a.small ∧ b.small ∧ c.small ∧ d.small
def Tr.leaves : Tr → List V
  | .num n => [.int n]
  | .wd x => [.str x]
  | .ch a b c d => a.leaves ++ (b.leaves ++ (c.leaves ++ (d.leaves ++ [])))
/-- the value v is the tree t -/
inductive TrAt (H : Hp) : V → Tr → Prop where
  | num (n : Int) : TrAt H (.int n) (.num n)
  | wd (x : Str) : TrAt H (.str x) (.wd x)
  | ch {p : Addr} {u v y z : V} {a b c d : Tr} (h : H p = some (.tup [u, v, y, z])) (ha : TrAt H u a) (hb : TrAt H v b) (hc : TrAt H y c) (hd : TrAt H z d) : TrAt H (.ref p) (.ch a b c d)
theorem TrAt.same {H H' : Hp} {v : V} {t : Tr} (h : TrAt H v t) (s : Same H H') : TrAt H' v t := by
  induction h with
  | num n => exact .num n
  | wd x => exact .wd x
  | ch h _ _ _ _ a b c d => exact .ch (s _ _ h) a b c d
theorem Tr.deep_pos (t : Tr) : 1 ≤ t.deep := by
  cases t <;> simp only [Tr.deep] <;> omega
theorem same_upd {H : Hp} {p : Addr} (h : H p = none) (o : HO) : Same H (upd H p o) := fun b u q => by
  rw [upd_ne (ne_of_none q h)]
  exact q
/-- a comprehension over a tuple, whose element is a call that changes nothing -/
theorem lc_mapT {K : PySem.W.Frag} {p D : Addr} {xs ys : List V} {k : Nat} {te : TE} {σ : St} {H : Hp} {Qd : Hp → Prop} (hp : H p = some (.tup xs)) (hl : ys.length = xs.length) (h6 : xs.length ≤ 1000) (hD : H D = none)
    (hw : ∀ v, wipe ((wipe σ [k]).set k v) [k] = wipe σ [k])
    (step : ∀ (i : Nat) (x y : V) (H1 : Hp) (R : VK), xs[i]? = some x → ys[i]? = some y → Same H H1 → (∀ H2, Same H1 H2 → R y H2) → te ((wipe σ [k]).set k (some x)) H1 R)
    (hd : ∀ H1, Same H H1 → H1 D = some (.lst ys) → Qd H1) :
    ∃ W : Nat → Nat → Hp → Prop, (∃ m, W 0 m (upd H D (.lst []))) ∧ ∀ i m H, W i m H →
      ((Itt K p).stop i H ∧ Qd H) ∨ ((Itt K p).go i H ∧ ∃ Nx : Hp → Prop, (∀ H', Nx H' → ∃ m', m' < m ∧ W (i + 1) m' H') ∧ ∀ x H', (Itt K p).yld i H x H' → gName k x (wipe σ [k]) H' fun σ2 H2 => wipe σ2 [k] = wipe σ [k] ∧ tYes σ2 H2 fun b H3 =>
        if b = true then te σ2 H3 fun y H4 => ∃ acc, H4 D = some (.lst acc) ∧ acc.length < sizeLine ∧ Nx (upd H4 D (.lst (acc ++ [y]))) else Nx H3) := by
  have hpD : p ≠ D := ne_of_none hp hD
  refine lc_tup (K := K) (a := p) (xs := xs) (fun i H1 => Same H H1 ∧ H1 D = some (.lst (ys.take i))) ⟨same_upd hD _, upd_same⟩ (fun i H1 _ z => SqT.of (z.1 _ _ hp)) (fun i x H1 hx z => ?_) (fun H1 z => ?_)
  · obtain ⟨s1, d1⟩ := z
    have hi : i < xs.length := (List.getElem?_eq_some_iff.mp hx).1
    have hy : ys[i]? = some ys[i] := List.getElem?_eq_getElem (by omega)
    refine ⟨hw _, ?_⟩
    unfold tYes
    dsimp only
    rw [if_pos rfl]
    refine step i x ys[i] H1 _ hx hy s1 fun H2 s2 => ?_
    refine ⟨ys.take i, s2 _ _ d1, ?_, ?_⟩
    · rw [List.length_take]
      exact Nat.lt_of_le_of_lt (Nat.le_trans (Nat.min_le_right _ _) (by rw [hl]; exact h6)) (by decide)
    · refine ⟨fun b o q => ?_, ?_⟩
      · have hb : b ≠ D := ne_of_none q hD
        rw [upd_ne hb]
        exact s2 _ _ (s1 _ _ q)
      · rw [upd_same, List.take_succ, hy]
        rfl
  · obtain ⟨s1, d1⟩ := z
    rw [List.take_of_length_le (by omega)] at d1
    exact hd H1 s1 d1
theorem cr_or {X : Cx} {f : Value} {r1 r2 : List V → Hp → VK → Prop} (h1 : CallR X f r1) (h2 : CallR X f r2) : CallR X f (fun xs H Q => r1 xs H Q ∨ r2 xs H Q) := by
  intro pins s σ H xs us Q I r h
  rcases h with h | h
  · exact h1 pins s σ H xs us Q I r h
  · exact h2 pins s σ H xs us Q I r h
end TS
namespace TS
open PySem L2
/-! what the reader of terms tells, sign by sign -/
def isLet (c : Nat) : Bool := decide (c ∈ ("abcdefghijklmnopqrstuvwxyz" : Str).cps.toList)
def isDig (c : Nat) : Bool := decide (c ∈ ("0123456789" : Str).cps.toList)
theorem let_codes : ("abcdefghijklmnopqrstuvwxyz" : Str).cps.toList = [97, 98, 99, 100, 101, 102, 103, 104, 105, 106, 107, 108, 109, 110, 111, 112, 113, 114, 115, 116, 117, 118, 119, 120, 121, 122] := by decide +kernel
theorem dig_codes : ("0123456789" : Str).cps.toList = [48, 49, 50, 51, 52, 53, 54, 55, 56, 57] := by decide +kernel
theorem isLet_iff {c : Nat} : isLet c = true ↔ 97 ≤ c ∧ c ≤ 122 := by
  unfold isLet
  rw [let_codes, decide_eq_true_iff]
  simp only [List.mem_cons, List.not_mem_nil, or_false]
  omega
theorem isDig_iff {c : Nat} : isDig c = true ↔ 48 ≤ c ∧ c ≤ 57 := by
  unfold isDig
  rw [dig_codes, decide_eq_true_iff]
  simp only [List.mem_cons, List.not_mem_nil, or_false]
  omega
def wend (cs : List Nat) (i : Nat) : Nat := i + ((cs.drop i).takeWhile isLet).length
def seg (z : Str) (i j : Nat) : Str := cutS z (some (i : Int)) (some (j : Int))
def partsAt (p : Nat → Option (Tr × Nat)) (cs : List Nat) : List Nat → Nat → Option (List Tr × Nat)
  | [], i => some ([], i)
  | s :: ss, i => if cs[i]? = some s then
      match p (i + 1) with
      | none => none
      | some (t, e) => match partsAt p cs ss e with
        | none => none
        | some (ts, e') => some (t :: ts, e')
    else none
def choiceAt (p : Nat → Option (Tr × Nat)) (cs : List Nat) (i : Nat) : Option (Tr × Nat) := match partsAt p cs [40, 61, 63, 58] i with
  | some ([a, b, c, d], e) => if cs[e]? = some 41 then some (.ch a b c d, e + 1) else none
  | _ => none
def treeAt (z : Str) : Nat → Nat → Option (Tr × Nat)
  | 0, _ => none
  | r + 1, i => match z.cps.toList[i]? with
    | none => none
    | some c => if c = 40 then choiceAt (treeAt z r) z.cps.toList i
      else if isDig c = true then some (.num ((c : Int) - 48), i + 1)
      else if 1 ≤ wend z.cps.toList i - i ∧ wend z.cps.toList i - i ≤ 8 then some (.wd (seg z i (wend z.cps.toList i)), wend z.cps.toList i) else none
def treeOf (z : Str) : Option Tr := match treeAt z 3 0 with
  | some (t, e) => if e = z.length then some t else none
  | none => none
/-- a word as it may stand in a term -/
def WordOk (x : Str) : Prop := 1 ≤ x.length ∧ x.length ≤ 8 ∧ ∀ c ∈ x.cps.toList, isLet c = true
def Tr.fine : Tr → Prop
  | .num n => 0 ≤ n ∧ n ≤ 9
  | .wd x => WordOk x
  | .ch a b c d => a.fine ∧ b.fine ∧ c.fine ∧ d.fine
theorem Tr.fine.small : ∀ {t : Tr}, t.fine → t.small
  | .num _, h => h
  | .wd _, _ => True.intro
  | .ch _ _ _ _, h => ⟨h.1.small, h.2.1.small, h.2.2.1.small, h.2.2.2.small⟩
theorem seg_codes (z : Str) {i j : Nat} (h : i ≤ j) (hj : j ≤ z.length) : (seg z i j).cps.toList = (z.cps.toList.drop i).take (j - i) := by
  have e1 : HT.sIx z.length 0 (some (i : Int)) = i := by
    unfold HT.sIx
    simp only
    rw [if_neg (by omega)]
    omega
  have e2 : HT.sIx z.length z.length (some (j : Int)) = j := by
    unfold HT.sIx
    simp only
    rw [if_neg (by omega)]
    omega
  unfold seg cutS
  rw [e1, e2]
theorem str_ext {a b : Str} (h : a.cps.toList = b.cps.toList) : a = b := by
  cases a
  cases b
  simp only [Str.mk.injEq]
  exact Array.ext' h
theorem len_codes (a : Str) : a.cps.toList.length = a.length := by
  unfold Str.length
  simp
theorem codes_append (a b : Str) : (a ++ b).cps.toList = a.cps.toList ++ b.cps.toList := by
  show (a.cps ++ b.cps).toList = _
  simp
theorem codes_digit {n : Int} (h0 : 0 ≤ n) (h9 : n ≤ 9) : ((toString n : String) : Str).cps.toList = [48 + n.toNat] := by
  have h : n = 0 ∨ n = 1 ∨ n = 2 ∨ n = 3 ∨ n = 4 ∨ n = 5 ∨ n = 6 ∨ n = 7 ∨ n = 8 ∨ n = 9 := by omega
  rcases h with rfl | rfl | rfl | rfl | rfl | rfl | rfl | rfl | rfl | rfl <;> decide +kernel
theorem codes_ch (a b c d : Tr) : (Tr.ch a b c d).text.cps.toList = 40 :: (a.text.cps.toList ++ 61 :: (b.text.cps.toList ++ 63 :: (c.text.cps.toList ++ 58 :: (d.text.cps.toList ++ [41])))) := by
  have e1 : Str.empty.cps.toList = [] := rfl
  have e2 : ("(" : Str).cps.toList = [40] := by decide +kernel
  have e3 : ("=" : Str).cps.toList = [61] := by decide +kernel
  have e4 : ("?" : Str).cps.toList = [63] := by decide +kernel
  have e5 : (":" : Str).cps.toList = [58] := by decide +kernel
  have e6 : (")" : Str).cps.toList = [41] := by decide +kernel
  simp only [Tr.text, codes_append, e1, e2, e3, e4, e5, e6, List.append_assoc, List.nil_append, List.cons_append]
/-- no letter stands ahead of what follows -/
def NoLet (post : List Nat) : Prop := ∀ c, post.head? = some c → isLet c = false
theorem takeWhile_word {w post : List Nat} (hw : ∀ c ∈ w, isLet c = true) (hp : NoLet post) : (w ++ post).takeWhile isLet = w := by
  induction w with
  | nil =>
    cases post with
    | nil => rfl
    | cons c cs =>
      have := hp c rfl
      simp [List.takeWhile, this]
  | cons c cs ih =>
    have h1 := hw c (by simp)
    rw [List.cons_append, List.takeWhile_cons_of_pos h1, ih fun x hx => hw x (by simp [hx])]
theorem noLet_cons {c : Nat} {cs : List Nat} (h : isLet c = false) : NoLet (c :: cs) := fun d e => by
  simp only [List.head?_cons, Option.some.injEq] at e
  rw [← e]
  exact h
theorem get_mid {pre : List Nat} {c : Nat} {post : List Nat} : (pre ++ c :: post)[pre.length]? = some c := by
  rw [List.getElem?_append_right (Nat.le_refl _), Nat.sub_self]
  rfl
theorem drop_mid {pre post : List Nat} : (pre ++ post).drop pre.length = post := List.drop_left
/-- the reader finds the text of a tree -/
theorem treeAt_text (z : Str) : ∀ (t : Tr) (r : Nat) (pre post : List Nat), t.fine → t.deep ≤ r → z.cps.toList = pre ++ (t.text.cps.toList ++ post) → NoLet post →
    treeAt z r pre.length = some (t, pre.length + t.text.cps.toList.length) := by
  intro t
  induction t with
  | num n =>
    intro r pre post hf hd hz hp
    obtain ⟨r, rfl⟩ : ∃ q, r = q + 1 := ⟨r - 1, by simp only [Tr.deep] at hd; omega⟩
    have ec : (Tr.num n).text.cps.toList = [48 + n.toNat] := codes_digit hf.1 hf.2
    have h0 := hf.1
    have h9 := hf.2
    rw [ec] at hz ⊢
    have eg : z.cps.toList[pre.length]? = some (48 + n.toNat) := by
      rw [hz, List.cons_append, List.nil_append]
      exact get_mid
    unfold treeAt
    rw [eg]
    simp only
    rw [if_neg (by omega), if_pos (isDig_iff.mpr (by omega))]
    have e : ((48 + n.toNat : Nat) : Int) - 48 = n := by omega
    rw [e]
    rfl
  | wd x =>
    intro r pre post hf hd hz hp
    obtain ⟨r, rfl⟩ : ∃ q, r = q + 1 := ⟨r - 1, by simp only [Tr.deep] at hd; omega⟩
    obtain ⟨h1, h8, hl⟩ := hf
    show treeAt z (r + 1) pre.length = some (.wd x, pre.length + x.cps.toList.length)
    have hz' : z.cps.toList = pre ++ (x.cps.toList ++ post) := hz
    have hxl := len_codes x
    cases hx : x.cps.toList with
    | nil =>
      rw [hx] at hxl
      simp only [List.length_nil] at hxl
      omega
    | cons c cs =>
      have hc : isLet c = true := hl c (by rw [hx]; simp)
      have hcc := isLet_iff.mp hc
      have eg : z.cps.toList[pre.length]? = some c := by
        rw [hz', hx, List.cons_append]
        exact get_mid
      have ew : wend z.cps.toList pre.length = pre.length + x.length := by
        unfold wend
        rw [hz', drop_mid, takeWhile_word hl hp, hxl]
      have zl : z.length = pre.length + (x.length + post.length) := by
        rw [← len_codes z, hz', List.length_append, List.length_append, hxl]
      have es : seg z pre.length (pre.length + x.length) = x := by
        apply str_ext
        rw [seg_codes z (Nat.le_add_right _ _) (by omega), hz', drop_mid, Nat.add_sub_cancel_left, ← hxl, List.take_left]
      unfold treeAt
      rw [eg]
      simp only
      rw [if_neg (by omega), if_neg (fun q => by have := isDig_iff.mp q; omega), ew, if_pos (by omega), es, ← hx, hxl]
  | ch a b c d iha ihb ihc ihd =>
    intro r pre post hf hd hz hp
    obtain ⟨r, rfl⟩ : ∃ q, r = q + 1 := ⟨r - 1, by simp only [Tr.deep] at hd; omega⟩
    obtain ⟨fa, fb, fc, fd⟩ := hf
    have dd : a.deep ≤ r ∧ b.deep ≤ r ∧ c.deep ≤ r ∧ d.deep ≤ r := by
      simp only [Tr.deep] at hd
      omega
    rw [codes_ch] at hz ⊢
    have n1 : isLet 61 = false := by decide +kernel
    have n2 : isLet 63 = false := by decide +kernel
    have n3 : isLet 58 = false := by decide +kernel
    have n4 : isLet 41 = false := by decide +kernel
    generalize ha : a.text.cps.toList = ca at *
    generalize hb : b.text.cps.toList = cb at *
    generalize hcc : c.text.cps.toList = cc at *
    generalize hdd : d.text.cps.toList = cd at *
    have z0 : z.cps.toList = pre ++ 40 :: (ca ++ 61 :: (cb ++ 63 :: (cc ++ 58 :: (cd ++ 41 :: post)))) := by
      rw [hz]
      simp
    have z1 : z.cps.toList = (pre ++ [40]) ++ (ca ++ 61 :: (cb ++ 63 :: (cc ++ 58 :: (cd ++ 41 :: post)))) := by rw [z0]; simp
    have z1' : z.cps.toList = (pre ++ [40] ++ ca) ++ 61 :: (cb ++ 63 :: (cc ++ 58 :: (cd ++ 41 :: post))) := by rw [z0]; simp
    have z2 : z.cps.toList = (pre ++ [40] ++ ca ++ [61]) ++ (cb ++ 63 :: (cc ++ 58 :: (cd ++ 41 :: post))) := by rw [z0]; simp
    have z2' : z.cps.toList = (pre ++ [40] ++ ca ++ [61] ++ cb) ++ 63 :: (cc ++ 58 :: (cd ++ 41 :: post)) := by rw [z0]; simp
    have z3 : z.cps.toList = (pre ++ [40] ++ ca ++ [61] ++ cb ++ [63]) ++ (cc ++ 58 :: (cd ++ 41 :: post)) := by rw [z0]; simp
    have z3' : z.cps.toList = (pre ++ [40] ++ ca ++ [61] ++ cb ++ [63] ++ cc) ++ 58 :: (cd ++ 41 :: post) := by rw [z0]; simp
    have z4 : z.cps.toList = (pre ++ [40] ++ ca ++ [61] ++ cb ++ [63] ++ cc ++ [58]) ++ (cd ++ 41 :: post) := by rw [z0]; simp
    have z4' : z.cps.toList = (pre ++ [40] ++ ca ++ [61] ++ cb ++ [63] ++ cc ++ [58] ++ cd) ++ 41 :: post := by rw [z0]; simp
    have g0 : z.cps.toList[pre.length]? = some 40 := by rw [z0]; exact get_mid
    have g1 : z.cps.toList[(pre ++ [40] ++ ca).length]? = some 61 := by rw [z1']; exact get_mid
    have g2 : z.cps.toList[(pre ++ [40] ++ ca ++ [61] ++ cb).length]? = some 63 := by rw [z2']; exact get_mid
    have g3 : z.cps.toList[(pre ++ [40] ++ ca ++ [61] ++ cb ++ [63] ++ cc).length]? = some 58 := by rw [z3']; exact get_mid
    have g4 : z.cps.toList[(pre ++ [40] ++ ca ++ [61] ++ cb ++ [63] ++ cc ++ [58] ++ cd).length]? = some 41 := by rw [z4']; exact get_mid
    have t1 := iha r (pre ++ [40]) _ fa dd.1 z1 (noLet_cons n1)
    have t2 := ihb r (pre ++ [40] ++ ca ++ [61]) _ fb dd.2.1 z2 (noLet_cons n2)
    have t3 := ihc r (pre ++ [40] ++ ca ++ [61] ++ cb ++ [63]) _ fc dd.2.2.1 z3 (noLet_cons n3)
    have t4 := ihd r (pre ++ [40] ++ ca ++ [61] ++ cb ++ [63] ++ cc ++ [58]) _ fd dd.2.2.2 z4 (noLet_cons n4)
    have l0 : (pre ++ [40]).length = pre.length + 1 := by simp
    simp only [List.length_append, List.length_cons, List.length_nil, Nat.zero_add] at t1 t2 t3 t4 g1 g2 g3 g4
    unfold treeAt
    rw [g0]
    simp only
    rw [if_pos trivial]
    unfold choiceAt
    have P : partsAt (treeAt z r) z.cps.toList [40, 61, 63, 58] pre.length = some ([a, b, c, d], pre.length + 1 + ca.length + 1 + cb.length + 1 + cc.length + 1 + cd.length) := by
      simp only [partsAt]
      rw [if_pos g0, t1]
      simp only
      rw [if_pos g1, t2]
      simp only
      rw [if_pos g2, t3]
      simp only
      rw [if_pos g3, t4]
    rw [P]
    simp only
    rw [if_pos g4]
    simp only [List.length_append, List.length_cons, List.length_nil, Option.some.injEq, Prod.mk.injEq, true_and]
    omega
theorem treeOf_text {t : Tr} (hf : t.fine) (hd : t.deep ≤ 3) : treeOf t.text = some t := by
  have h := treeAt_text t.text t 3 [] [] hf hd (by simp) (fun c e => by simp at e)
  unfold treeOf
  simp only [List.length_nil, Nat.zero_add] at h
  rw [h]
  simp only
  rw [if_pos (len_codes _)]
theorem text_inj {t u : Tr} (hf : t.fine) (hd : t.deep ≤ 3) (gf : u.fine) (gd : u.deep ≤ 3) (h : t.text = u.text) : t = u := by
  have h1 := treeOf_text hf hd
  rw [h, treeOf_text gf gd] at h1
  exact (Option.some.inj h1).symm
end TS
namespace TS
open PySem L2
def top (i : Nat) : Stmt := PySem.Challenge.pw_tiedsteps_k03_whole_values_of_terms.main.body.getD i (.Pass ⟨0, 0, 0, 0⟩)
abbrev sIsNum : Stmt := top 8
abbrev sAsc : Stmt := top 9
abbrev sText : Stmt := top 21
abbrev sDepth : Stmt := top 22
abbrev sKind : Stmt := top 23
abbrev sLeaves : Stmt := top 24
section
variable {P : Program} {w : World} {K : PySem.W.Frag} {mg : Str → Option Value} {base : Heap}
theorem bIsi : bootBuiltins "isinstance" = some (.builtin "isinstance") := by decide +kernel
/-! the kinds of a tree's value -/
theorem isT {H : Hp} {v : V} {t : Tr} (h : TrAt H v t) : ∃ (u : Value) (b : Bool), TyX K H v u ∧ PySem.W.kitOne K u (.type "tuple") = some b ∧ ((b = true ∧ ∃ a c d e, t = .ch a c d e) ∨ (b = false ∧ ((∃ n, v = .int n ∧ t = .num n) ∨ ∃ x, v = .str x ∧ t = .wd x))) := by
  cases h with
  | num n => exact ⟨_, false, .base (.int n), kit_ty (by decide +kernel), .inr ⟨rfl, .inl ⟨n, rfl, rfl⟩⟩⟩
  | wd x => exact ⟨_, false, .base (.str x), kit_ty (by decide +kernel), .inr ⟨rfl, .inr ⟨x, rfl, rfl⟩⟩⟩
  | ch h _ _ _ _ => exact ⟨_, true, .base (.tup h), kit_ty (by decide +kernel), .inl ⟨rfl, _, _, _, _, rfl⟩⟩
structure BltT (mg : Str → Option Value) : Prop where
  isi : mg "isinstance" = none
  tup : mg "tuple" = none
  str : mg "str" = none
  int : mg "int" = none
  bool : mg "bool" = none
  max : mg "max" = none
  set : mg "set" = none
  sorted : mg "sorted" = none
  len : mg "len" = none
  any : mg "any" = none
/-! _text_of -/
abbrev nmText : List Str := ["tree", "one", "other", "same", "unlike", "part"]
theorem scText : FnScope nmText ["tree"] (defScope sText) := ⟨rfl, rfl, rfl, by decide +kernel, rfl, by decide +kernel, by decide +kernel⟩
def spText (n : Nat) : Sp := fun vs H Q _ => ∃ (v : V) (t : Tr), vs = [v] ∧ TrAt H v t ∧ t.small ∧ t.deep ≤ n ∧ t.text.length ≤ 100000 ∧ ∀ H', Same H H' → Q (.str t.text) H'
theorem none_text {f : Addr} {fd : FuncData} : FnOk P w K mg base CX0 0 f fd ["tree"] (spText 0) := by
  have no : ∀ vs H Q E, ¬ spText 0 vs H Q E := fun vs H Q E h => by
    obtain ⟨v, t, _, _, _, hd, _⟩ := h
    have z := t.deep_pos
    omega
  exact ⟨fun vs H Q E h => absurd h (no vs H Q E), fun A outer s H args us vs Q E _ _ _ _ h => absurd h (no vs H Q E)⟩
theorem text_len {a b c d : Tr} (h : (Tr.ch a b c d).text.length ≤ 100000) : a.text.length + b.text.length + c.text.length + d.text.length + 5 ≤ 100000 := by
  simp only [Tr.text, Str.length_append] at h
  have e1 : Str.empty.length = 0 := by decide +kernel
  have e2 : ("(" : Str).length = 1 := by decide +kernel
  have e3 : ("=" : Str).length = 1 := by decide +kernel
  have e4 : ("?" : Str).length = 1 := by decide +kernel
  have e5 : (":" : Str).length = 1 := by decide +kernel
  have e6 : (")" : Str).length = 1 := by decide +kernel
  omega
theorem ok_text {n : Nat} {f : Addr} {fd : FuncData} (F : Fun K "_text_of" "_text_of" sText f fd) (T : BltT mg) (b : Binds K fd ["tree"] []) (m : mg "_text_of" = some (.ref f)) (G : FnOk P w K mg base CX0 n f fd ["tree"] (spText n)) :
    FnOk P w K mg base CX0 (n + 1) f fd ["tree"] (spText (n + 1)) := by
  refine F.ok scText (fun vs H Q E h => ?_) (fun cdv A outer s H vs Q E hr h => ?_)
  · obtain ⟨v, t, rfl, _⟩ := h
    rfl
  obtain ⟨v, t, rfl, ht, hsm, hd, hlen, q⟩ := h
  refine ⟨_, pss_cons (ps_if (pt_not (pt_val (pe_callB call_isi (by rfl) T.isi bIsi (pa_cons (pv 0) (pa_cons (pe_bltn (by rfl) T.tup (v := .ty "tuple") (by decide +kernel) rfl) pa_nil)))))
      (pss_one (ps_ret (pe_callTy (cr_or call_str_int SkE.call_str_str) (by rfl) T.str (by decide +kernel) (pa_cons (pv 0) pa_nil)))) pss_nil)
    (pss_cons (ps_asg (pe_lc (own := [("part", 5)]) (g := gName 5) (tt := tYes) (by rfl) scText.nd (pi_tup (pv 0)) (blkOk_by (own := [("part", 5)]) (N := nmText) (sc := defScope sText) (by decide +kernel)) (fun _ _ _ _ _ => pg_name (i := 5) scText.nd rfl (Or.inl rfl)) (fun _ _ _ _ _ => pts_nil)
        (fun _ _ _ _ _ => pe_call G hr rfl m F.kp b .nil pass0 (pa_cons (pv 5) pa_nil)))
      (pg_lst (by rfl) (pgs_cons (pg_name (i := 1) scText.nd rfl (.inl rfl)) (pgs_cons (pg_name (i := 2) scText.nd rfl (.inl rfl)) (pgs_cons (pg_name (i := 3) scText.nd rfl (.inl rfl)) (pgs_cons (pg_name (i := 4) scText.nd rfl (.inl rfl)) pgs_nil))))))
    (pss_one (ps_ret (pe_joined (.cons pe_str (.cons (pe_fmt (pv 1)) (.cons pe_str (.cons (pe_fmt (pv 2)) (.cons pe_str (.cons (pe_fmt (pv 3)) (.cons pe_str (.cons (pe_fmt (pv 4)) (.cons pe_str .nil))))))))))))), ?_⟩
  obtain ⟨u, c, hty, hk, hc⟩ := isT (K := K) ht
  refine ⟨_, rfl, _, _, _, _, _, rfl, .ty "tuple", hty, hk, _, rfl, ?_⟩
  rcases hc with ⟨rfl, a, b', c, d, rfl⟩ | ⟨rfl, hc⟩
  · refine iteF ?_
    cases ht with
    | ch hp ha hb hc hdd =>
      rename_i p y0 y1 y2 y3
      have tl := text_len hlen
      have dd : a.deep ≤ n ∧ b'.deep ≤ n ∧ c.deep ≤ n ∧ d.deep ≤ n := by
        simp only [Tr.deep] at hd
        omega
      obtain ⟨s1, s2, s3, s4⟩ := hsm
      refine ⟨_, rfl, p, rfl, ⟨_, SqT.of hp⟩, fun D hD => lc_mapT (ys := [.str a.text, .str b'.text, .str c.text, .str d.text]) hp rfl (by show 4 ≤ 1000; decide) hD (fun _ => rfl) (fun i x y H1 R hx hy s1' hR => ?_) (fun H1 g1 hD1 => ?_)⟩
      · refine ⟨_, rfl, ?_⟩
        rcases i with _ | _ | _ | _ | i
        · cases hx
          cases hy
          exact ⟨_, a, rfl, ha.same s1', s1, dd.1, by omega, hR⟩
        · cases hx
          cases hy
          exact ⟨_, b', rfl, hb.same s1', s2, dd.2.1, by omega, hR⟩
        · cases hx
          cases hy
          exact ⟨_, c, rfl, hc.same s1', s3, dd.2.2.1, by omega, hR⟩
        · cases hx
          cases hy
          exact ⟨_, d, rfl, hdd.same s1', s4, dd.2.2.2, by omega, hR⟩
        · simp at hx
      · have e1 : Str.empty.length = 0 := by decide +kernel
        have e2 : ("(" : Str).length = 1 := by decide +kernel
        have e3 : ("=" : Str).length = 1 := by decide +kernel
        have e4 : ("?" : Str).length = 1 := by decide +kernel
        have e5 : (":" : Str).length = 1 := by decide +kernel
        have e6 : (")" : Str).length = 1 := by decide +kernel
        have big : 100000 ≤ sizeLine := by decide
        refine ⟨D, _, rfl, SqL.of hD1, rfl, ?_⟩
        have L : ∀ {x y : Str}, x.length + y.length ≤ 100000 → (x ++ y).length ≤ sizeLine := fun {x y} h => by
          rw [Str.length_append]
          exact Nat.le_trans h big
        refine ⟨_, _, rfl, _, _, rfl, _, _, rfl, _, _, rfl, rfl, ?_⟩
        refine ⟨_, rfl, L (by omega), _, rfl, .inl ⟨_, rfl, by omega, _, rfl, L (by simp only [Str.length_append]; omega), ?_⟩⟩
        refine ⟨_, rfl, L (by simp only [Str.length_append]; omega), _, rfl, .inl ⟨_, rfl, by omega, _, rfl, L (by simp only [Str.length_append]; omega), ?_⟩⟩
        refine ⟨_, rfl, L (by simp only [Str.length_append]; omega), _, rfl, .inl ⟨_, rfl, by omega, _, rfl, L (by simp only [Str.length_append]; omega), ?_⟩⟩
        refine ⟨_, rfl, L (by simp only [Str.length_append]; omega), _, rfl, .inl ⟨_, rfl, by omega, _, rfl, L (by simp only [Str.length_append]; omega), ?_⟩⟩
        refine ⟨_, rfl, L (by simp only [Str.length_append]; omega), ?_⟩
        exact q H1 g1
  · refine iteT ?_
    rcases hc with ⟨k, rfl, rfl⟩ | ⟨x, rfl, rfl⟩
    · refine ⟨_, rfl, .inl ⟨k, rfl, ?_, q H (Same.refl H)⟩⟩
      have z : k.natAbs ≤ 9 := by
        have := hsm.1
        have := hsm.2
        omega
      exact Nat.lt_of_le_of_lt (Nat.log2_le_self _) (by omega)
    · exact ⟨_, rfl, .inr ⟨x, rfl, q H (Same.refl H)⟩⟩
end
end TS
namespace TS
open PySem L2
/-- [y for x in tuple for y in f(x)], f(x) a new list -/
theorem lc_flatT {K : PySem.W.Frag} {p D : Addr} {xs : List V} {zs : List (List V)} {k k1 : Nat} {te1 : TE} {σ : St} {H : Hp} {Qd : Hp → Prop} (hp : H p = some (.tup xs)) (hl : zs.length = xs.length) (h6 : zs.flatten.length ≤ 1000) (hD : H D = none)
    (hw : ∀ v, wipe ((wipe σ [k, k1]).set k v) [k, k1] = wipe σ [k, k1])
    (hw1 : ∀ v u, wipe ((wipe ((wipe σ [k, k1]).set k v) [k1]).set k1 u) [k1] = wipe ((wipe σ [k, k1]).set k v) [k1])
    (hat : ∀ v u, ((wipe ((wipe σ [k, k1]).set k v) [k1]).set k1 (some u))[k1]? = some (some u))
    (step : ∀ (i : Nat) (x : V) (z : List V) (H1 : Hp) (R : VK), xs[i]? = some x → zs[i]? = some z → Same H H1 → (∀ (r : Addr) H2, Same H1 H2 → H1 r = none → H2 r = some (.lst z) → R (.ref r) H2) → te1 ((wipe σ [k, k1]).set k (some x)) H1 R)
    (hd : ∀ H1, Same H H1 → H1 D = some (.lst zs.flatten) → Qd H1) :
    ∃ W : Nat → Nat → Hp → Prop, (∃ m, W 0 m (upd H D (.lst []))) ∧ ∀ i m H, W i m H →
  ((Itt K p).stop i H ∧ Qd H) ∨ ((Itt K p).go i H ∧ ∃ Nx : Hp → Prop, (∀ H', Nx H' → ∃ m', m' < m ∧ W (i + 1) m' H') ∧ ∀ x H', (Itt K p).yld i H x H' → gName k x (wipe σ [k, k1]) H' fun σ2 H2 => wipe σ2 [k, k1] = wipe σ [k, k1] ∧ tYes σ2 H2 fun b H3 =>
    if b = true then iList K te1 σ2 H3 fun J1 H4 => ∃ W1 : Nat → Nat → Hp → Prop, (∃ m, W1 0 m H4) ∧ ∀ j k2 H, W1 j k2 H →
      (J1.stop j H ∧ Nx H) ∨ (J1.go j H ∧ ∃ Nx1 : Hp → Prop, (∀ H', Nx1 H' → ∃ k', k' < k2 ∧ W1 (j + 1) k' H') ∧ ∀ x H', J1.yld j H x H' → gName k1 x (wipe σ2 [k1]) H' fun σ3 H5 => wipe σ3 [k1] = wipe σ2 [k1] ∧ tYes σ3 H5 fun b H6 =>
        if b = true then tVar k1 σ3 H6 fun y H7 => ∃ acc, H7 D = some (.lst acc) ∧ acc.length < sizeLine ∧ Nx1 (upd H7 D (.lst (acc ++ [y]))) else Nx1 H6)
    else Nx H3) := by
  refine ⟨fun i m H1 => m = xs.length - i ∧ i ≤ xs.length ∧ Same H H1 ∧ H1 D = some (.lst (zs.take i).flatten), ⟨xs.length, by simp, Nat.zero_le _, same_upd hD _, by rw [upd_same]; rfl⟩, ?_⟩
  rintro i m H1 ⟨rfl, hi, s1, d1⟩
  have q : SqT K H1 p xs := SqT.of (s1 _ _ hp)
  by_cases hlt : i < xs.length
  · refine .inr ⟨⟨xs, xs[i], q, by simp [hlt]⟩, fun H' => Same H H' ∧ H' D = some (.lst (zs.take (i + 1)).flatten), fun H' p' => ⟨xs.length - (i + 1), by omega, rfl, hlt, p'⟩, fun x H' y => ?_⟩
    obtain ⟨e, y⟩ := y
    subst e
    have hx := y xs q
    have hz : zs[i]? = some zs[i] := List.getElem?_eq_getElem (by omega)
    have tk : (zs.take (i + 1)).flatten = (zs.take i).flatten ++ zs[i] := by
      have e : zs.take (i + 1) = zs.take i ++ [zs[i]] := by
        rw [List.take_succ, hz]
        rfl
      rw [e, List.flatten_append]
      simp only [List.flatten_cons, List.flatten_nil, List.append_nil]
    have ln : (zs.take i).flatten.length + zs[i].length ≤ 1000 := by
      rw [← List.length_append, ← tk]
      refine Nat.le_trans ?_ h6
      have e : zs = zs.take (i + 1) ++ zs.drop (i + 1) := (List.take_append_drop _ _).symm
      conv => rhs; rw [e, List.flatten_append, List.length_append]
      exact Nat.le_add_right _ _
    generalize zs[i] = z at hz tk ln
    refine ⟨hw _, ?_⟩
    unfold tYes
    dsimp only
    rw [if_pos rfl]
    refine step i x z _ _ hx hz s1 fun r H2 s2 hr h2 => ?_
    have rD : r ≠ D := (ne_of_none d1 hr).symm
    refine ⟨r, rfl, ⟨_, SqL.of h2⟩, fun j m H5 => m = z.length - j ∧ j ≤ z.length ∧ Same H H5 ∧ H5 r = some (.lst z) ∧ H5 D = some (.lst ((zs.take i).flatten ++ z.take j)), ⟨z.length, by simp, Nat.zero_le _, s1.trans s2, h2, by rw [List.take_zero, List.append_nil]; exact s2 _ _ d1⟩, ?_⟩
    rintro j m H5 ⟨rfl, hj, s5, r5, d5⟩
    have q5 : SqL K H5 r z := SqL.of r5
    by_cases hlj : j < z.length
    · refine .inr ⟨⟨z, z[j], q5, by simp [hlj]⟩, fun H6 => Same H H6 ∧ H6 r = some (.lst z) ∧ H6 D = some (.lst ((zs.take i).flatten ++ z.take (j + 1))), fun H6 p6 => ⟨z.length - (j + 1), by omega, rfl, hlj, p6.1, p6.2.1, p6.2.2⟩, fun u H6 y6 => ?_⟩
      obtain ⟨e6, y6⟩ := y6
      subst e6
      have hu := y6 z q5
      refine ⟨hw1 _ _, iteT ⟨u, hat _ _, _, d5, ?_, ?_⟩⟩
      · rw [List.length_append, List.length_take]
        exact small1000 (by omega)
      · refine ⟨fun b o qb => ?_, ?_, ?_⟩
        · rw [upd_ne (ne_of_none qb hD)]
          exact s5 _ _ qb
        · rw [upd_ne rD]
          exact r5
        · rw [upd_same, List.take_succ, hu, List.append_assoc]
          rfl
    · have e : j = z.length := by omega
      subst e
      refine .inl ⟨⟨z, q5, Nat.le_refl _⟩, s5, ?_⟩
      rw [tk]
      rw [List.take_length] at d5
      exact d5
  · have e : i = xs.length := by omega
    subst e
    refine .inl ⟨⟨xs, q, Nat.le_refl _⟩, hd H1 s1 ?_⟩
    rw [List.take_of_length_le (by omega)] at d1
    exact d1
end TS
namespace TS
open PySem L2
/-! sorted texts and numbers are told by what is in them; the words and numbers of a tree; a Term in the heap -/
open PySem.Spec PyProof.Rows in
theorem sortedS_pair : ∀ l : List Str, sortedS l = true → l.Pairwise fun a b => a.cps.toList ≤ b.cps.toList := by
  have step : ∀ (l : List Str) (p : Str), risingS p l = true → (p :: l).Pairwise fun a b => a.cps.toList ≤ b.cps.toList := by
    intro l
    induction l with
    | nil => exact fun p _ => List.pairwise_singleton _ _
    | cons x r ih =>
      intro p h
      have h' : (!ltCps x.cps.toList p.cps.toList && risingS x r) = true := h
      rw [Bool.and_eq_true, Bool.not_eq_true', ltCps_eq] at h'
      have hx := ih x h'.2
      have hp : p.cps.toList ≤ x.cps.toList := List.not_lt.mp (of_decide_eq_false h'.1)
      refine List.pairwise_cons.mpr ⟨fun y hy => ?_, hx⟩
      rcases List.mem_cons.mp hy with rfl | hy
      · exact hp
      · exact List.le_trans hp ((List.pairwise_cons.mp hx).1 y hy)
  intro l h
  cases l with
  | nil => exact List.Pairwise.nil
  | cons x r => exact step r x h
theorem sortedS_same {a b : List Str} (hp : a.Perm b) (ha : PyProof.Rows.sortedS a = true) (hb : PyProof.Rows.sortedS b = true) : a = b :=
  List.Perm.eq_of_pairwise (fun x y _ _ h1 h2 => str_ext (List.le_antisymm h1 h2)) (sortedS_pair a ha) (sortedS_pair b hb) hp
theorem sortedI_same {a b : List Int} (hp : a.Perm b) (ha : a.Pairwise (· ≤ ·)) (hb : b.Pairwise (· ≤ ·)) : a = b :=
  List.Perm.eq_of_pairwise (fun x y _ _ h1 h2 => Int.le_antisymm h1 h2) ha hb hp
def Tr.words : Tr → List Str
  | .num _ => []
  | .wd x => [x]
  | .ch a b c d => a.words ++ (b.words ++ (c.words ++ (d.words ++ [])))
def Tr.nums : Tr → List Int
  | .num n => [n]
  | .wd _ => []
  | .ch a b c d => a.nums ++ (b.nums ++ (c.nums ++ (d.nums ++ [])))
def isS : V → Bool
  | .str _ => true
  | _ => false
theorem leaves_words : ∀ t : Tr, t.leaves.filter isS = t.words.map V.str
  | .num _ => rfl
  | .wd _ => rfl
  | .ch a b c d => by
    simp only [Tr.leaves, Tr.words, List.filter_append, List.map_append, leaves_words a, leaves_words b, leaves_words c, leaves_words d, List.filter_nil, List.map_nil]
theorem leaves_nums : ∀ t : Tr, t.leaves.filter (fun v => !isS v) = t.nums.map V.int
  | .num _ => rfl
  | .wd _ => rfl
  | .ch a b c d => by
    simp only [Tr.leaves, Tr.nums, List.filter_append, List.map_append, leaves_nums a, leaves_nums b, leaves_nums c, leaves_nums d, List.filter_nil, List.map_nil]
theorem leaves_kind : ∀ (t : Tr) (v : V), v ∈ t.leaves → (∃ x, v = .str x) ∨ ∃ n, v = .int n
  | .num n, v, h => .inr ⟨n, by simpa [Tr.leaves] using h⟩
  | .wd x, v, h => .inl ⟨x, by simpa [Tr.leaves] using h⟩
  | .ch a b c d, v, h => by
    simp only [Tr.leaves, List.mem_append, List.not_mem_nil, or_false] at h
    rcases h with h | h | h | h
    · exact leaves_kind a v h
    · exact leaves_kind b v h
    · exact leaves_kind c v h
    · exact leaves_kind d v h
theorem leaves_len : ∀ (t : Tr) (n : Nat), t.deep ≤ n + 1 → t.leaves.length ≤ 4 ^ n
  | .num _, n, _ => Nat.one_le_pow _ _ (by decide)
  | .wd _, n, _ => Nat.one_le_pow _ _ (by decide)
  | .ch a b c d, n, h => by
    simp only [Tr.deep] at h
    have z := a.deep_pos
    obtain ⟨n, rfl⟩ : ∃ m, n = m + 1 := ⟨n - 1, by omega⟩
    have h1 := leaves_len a n (by omega)
    have h2 := leaves_len b n (by omega)
    have h3 := leaves_len c n (by omega)
    have h4 := leaves_len d n (by omega)
    have e : 4 ^ (n + 1) = 4 * 4 ^ n := by rw [Nat.pow_succ, Nat.mul_comm]
    simp only [Tr.leaves, List.length_append, List.length_nil]
    omega
theorem leaves16 {t : Tr} (h : t.deep ≤ 3) : t.leaves.length ≤ 16 := leaves_len t 2 h
theorem text_len8 : ∀ {t : Tr} (n : Nat), t.fine → t.deep ≤ n + 1 → t.text.length ≤ 10 * 4 ^ n * 2 - 5
  | .num k, n, hf, _ => by
    have e : ((toString k : String) : Str).cps.toList.length = 1 := by rw [codes_digit hf.1 hf.2]; rfl
    have e' : (Tr.num k).text.length = 1 := by rw [← len_codes]; exact e
    have := Nat.one_le_pow n 4 (by decide)
    omega
  | .wd x, n, hf, _ => by
    have := Nat.one_le_pow n 4 (by decide)
    have h8 := hf.2.1
    show x.length ≤ _
    omega
  | .ch a b c d, n, hf, h => by
    simp only [Tr.deep] at h
    have z := a.deep_pos
    obtain ⟨n, rfl⟩ : ∃ m, n = m + 1 := ⟨n - 1, by omega⟩
    obtain ⟨fa, fb, fc, fd⟩ := hf
    have h1 := text_len8 n fa (by omega)
    have h2 := text_len8 n fb (by omega)
    have h3 := text_len8 n fc (by omega)
    have h4 := text_len8 n fd (by omega)
    have e : 4 ^ (n + 1) = 4 * 4 ^ n := by rw [Nat.pow_succ, Nat.mul_comm]
    have p := Nat.one_le_pow n 4 (by decide)
    have l : (Tr.ch a b c d).text.length = a.text.length + b.text.length + c.text.length + d.text.length + 5 := by
      rw [← len_codes, codes_ch]
      simp only [List.length_cons, List.length_append, List.length_nil, len_codes]
      omega
    omega
theorem text315 {t : Tr} (hf : t.fine) (h : t.deep ≤ 3) : t.text.length ≤ 315 := text_len8 2 hf h
/-- a Term's attributes, in the order in which they are stored -/
def tfs (v : V) (x : Str) (d : Nat) (k : Str) (l q r : Addr) : List (Str × V) :=
  putF "_constants" (.ref r) (putF "_variables" (.ref q) (putF "_leaves" (.ref l) (putF "_kind" (.str k) (putF "_depth" (.int d) (putF "_text" (.str x) (putF "_tree" v []))))))
section
variable (v : V) (x : Str) (d : Nat) (k : Str) (l q r : Addr)
theorem tfs_tree : (tfs v x d k l q r).lookup ("_tree" : Str) = some v := by
  unfold tfs
  rw [lookup_putF, if_neg (by decide +kernel), lookup_putF, if_neg (by decide +kernel), lookup_putF, if_neg (by decide +kernel), lookup_putF, if_neg (by decide +kernel), lookup_putF, if_neg (by decide +kernel), lookup_putF, if_neg (by decide +kernel), lookup_putF, if_pos rfl]
theorem tfs_text : (tfs v x d k l q r).lookup ("_text" : Str) = some (.str x) := by
  unfold tfs
  rw [lookup_putF, if_neg (by decide +kernel), lookup_putF, if_neg (by decide +kernel), lookup_putF, if_neg (by decide +kernel), lookup_putF, if_neg (by decide +kernel), lookup_putF, if_neg (by decide +kernel), lookup_putF, if_pos rfl]
theorem tfs_depth : (tfs v x d k l q r).lookup ("_depth" : Str) = some (.int d) := by
  unfold tfs
  rw [lookup_putF, if_neg (by decide +kernel), lookup_putF, if_neg (by decide +kernel), lookup_putF, if_neg (by decide +kernel), lookup_putF, if_neg (by decide +kernel), lookup_putF, if_pos rfl]
theorem tfs_kind : (tfs v x d k l q r).lookup ("_kind" : Str) = some (.str k) := by
  unfold tfs
  rw [lookup_putF, if_neg (by decide +kernel), lookup_putF, if_neg (by decide +kernel), lookup_putF, if_neg (by decide +kernel), lookup_putF, if_pos rfl]
theorem tfs_leaves : (tfs v x d k l q r).lookup ("_leaves" : Str) = some (.ref l) := by
  unfold tfs
  rw [lookup_putF, if_neg (by decide +kernel), lookup_putF, if_neg (by decide +kernel), lookup_putF, if_pos rfl]
theorem tfs_vars : (tfs v x d k l q r).lookup ("_variables" : Str) = some (.ref q) := by
  unfold tfs
  rw [lookup_putF, if_neg (by decide +kernel), lookup_putF, if_pos rfl]
theorem tfs_cons : (tfs v x d k l q r).lookup ("_constants" : Str) = some (.ref r) := by
  unfold tfs
  rw [lookup_putF, if_pos rfl]
/-- a name that is none of its attributes -/
def noFld (m : Str) : Bool := !(decide (m = "_constants") || decide (m = "_variables") || decide (m = "_leaves") || decide (m = "_kind") || decide (m = "_depth") || decide (m = "_text") || decide (m = "_tree"))
theorem tfs_no {m : Str} (h : noFld m = true) : (tfs v x d k l q r).lookup m = none := by
  unfold noFld at h
  simp only [Bool.not_eq_true', Bool.or_eq_false_iff, decide_eq_false_iff_not] at h
  obtain ⟨⟨⟨⟨⟨⟨h1, h2⟩, h3⟩, h4⟩, h5⟩, h6⟩, h7⟩ := h
  unfold tfs
  rw [lookup_putF, if_neg h1, lookup_putF, if_neg h2, lookup_putF, if_neg h3, lookup_putF, if_neg h4, lookup_putF, if_neg h5, lookup_putF, if_neg h6, lookup_putF, if_neg h7]
  rfl
end
/-- the kind of a tree -/
def Tr.kind : Tr → Str
  | .num _ => "constant"
  | .wd _ => "variable"
  | .ch _ _ _ _ => "choice"
/-- a Term of the tree t stands at a -/
structure TermAt (C : Addr) (H : Hp) (a : Addr) (t : Tr) : Prop where
  fine : t.fine
  deep : t.deep ≤ 3
  ob : ∃ (dx : Addr) (v : V) (l q r : Addr) (ws : List Str) (ns : List Int), H a = some (.ins C dx (tfs v t.text t.deep t.kind l q r)) ∧ TrAt H v t ∧ H l = some (.lst t.leaves) ∧ H q = some (.lst (ws.map V.str)) ∧ H r = some (.lst (ns.map V.int)) ∧
    ws.Perm (once t.words) ∧ PyProof.Rows.sortedS ws = true ∧ ns.Perm (once t.nums) ∧ ns.Pairwise (· ≤ ·)
theorem TermAt.same {C : Addr} {H H' : Hp} {a : Addr} {t : Tr} (h : TermAt C H a t) (s : Same H H') : TermAt C H' a t := by
  obtain ⟨f, d, dx, v, l, q, r, ws, ns, h1, h2, h3, h4, h5, h6⟩ := h
  exact ⟨f, d, dx, v, l, q, r, ws, ns, s _ _ h1, h2.same s, s _ _ h3, s _ _ h4, s _ _ h5, h6⟩
/-- all but the object at p stands as before -/
def SameX (p : Addr) (H H' : Hp) : Prop := ∀ b o, H b = some o → b ≠ p → H' b = some o
theorem SameX.refl (p : Addr) (H : Hp) : SameX p H H := fun _ _ h _ => h
theorem SameX.trans {p : Addr} {H H1 H2 : Hp} (a : SameX p H H1) (b : SameX p H1 H2) : SameX p H H2 := fun c o h n => b c o (a c o h n) n
theorem Same.x {p : Addr} {H H' : Hp} (s : Same H H') : SameX p H H' := fun b o h _ => s b o h
/-- all but the objects of Ds stands as before -/
def SameOff (Ds : List Addr) (H H' : Hp) : Prop := ∀ b o, H b = some o → b ∉ Ds → H' b = some o
theorem SameOff.refl (Ds : List Addr) (H : Hp) : SameOff Ds H H := fun _ _ h _ => h
theorem SameOff.trans {Ds : List Addr} {H H1 H2 : Hp} (a : SameOff Ds H H1) (b : SameOff Ds H1 H2) : SameOff Ds H H2 := fun c o h n => b c o (a c o h n) n
theorem Same.off {Ds : List Addr} {H H' : Hp} (s : Same H H') : SameOff Ds H H' := fun b o h _ => s b o h
theorem off_upd {Ds : List Addr} {H H1 : Hp} {D : Addr} {o : HO} (s : SameOff Ds H H1) (h : D ∈ Ds) : SameOff Ds H (upd H1 D o) := fun b u e n => by
  rw [upd_ne (fun q => n (by rw [q]; exact h))]
  exact s b u e n
theorem off_new {Ds : List Addr} {H H1 : Hp} {D : Addr} {o : HO} (s : SameOff Ds H H1) (h : H D = none) : SameOff Ds H (upd H1 D o) := fun b u e n => by
  rw [upd_ne (ne_of_none e h)]
  exact s b u e n
/-- lists stand at all of Ds -/
def Lists (Ds : List Addr) (H : Hp) : Prop := ∀ D ∈ Ds, ∃ xs, H D = some (.lst xs)
theorem TrAt.off {Ds : List Addr} {H H' : Hp} {v : V} {t : Tr} (h : TrAt H v t) (s : SameOff Ds H H') (hl : Lists Ds H) : TrAt H' v t := by
  induction h with
  | num n => exact .num n
  | wd x => exact .wd x
  | ch h _ _ _ _ a b c d => exact .ch (s _ _ h (fun e => by obtain ⟨xs, q⟩ := hl _ e; rw [h] at q; cases q)) a b c d
theorem TrAt.sameX {p : Addr} {H H' : Hp} {v : V} {t : Tr} (h : TrAt H v t) (s : SameX p H H') (hp : ∀ xs, H p ≠ some (.tup xs)) : TrAt H' v t := by
  induction h with
  | num n => exact .num n
  | wd x => exact .wd x
  | ch h _ _ _ _ a b c d => exact .ch (s _ _ h (fun e => hp _ (by rw [← e]; exact h))) a b c d
end TS
namespace TS
open PySem L2
section
variable {P : Program} {w : World} {K : PySem.W.Frag} {mg : Str → Option Value} {base : Heap}
/-! is_number -/
theorem scNum : FnScope ["value"] ["value"] (defScope sIsNum) := ⟨rfl, rfl, rfl, by decide +kernel, rfl, by decide +kernel, by decide +kernel⟩
def spNum (K : PySem.W.Frag) : Sp := fun vs H Q _ => ∃ (v : V) (t : Value) (b c : Bool), vs = [v] ∧ TyX K H v t ∧ PySem.W.kitOne K t (.type "int") = some b ∧ PySem.W.kitOne K t (.type "bool") = some c ∧ Q (.bl (b && !c)) H
theorem ok_num {f : Addr} {fd : FuncData} (F : Fun K "is_number" "is_number" sIsNum f fd) (T : BltT mg) : FnOk P w K mg base CX0 1 f fd ["value"] (spNum K) := by
  refine F.ok scNum (fun vs H Q E h => ?_) (fun cdv A outer s H vs Q E hr h => ?_)
  · obtain ⟨v, t, b, c, rfl, _⟩ := h
    rfl
  obtain ⟨v, t, b, c, rfl, ty, k1, k2, q⟩ := h
  refine ⟨_, pss_one (ps_ret (pe_and (pe_callB call_isi (by rfl) T.isi bIsi (pa_cons (pv 0) (pa_cons (pe_bltn (by rfl) T.int (v := .ty "int") (by decide +kernel) rfl) pa_nil)))
    (pe_one (pe_not (pe_callB call_isi (by rfl) T.isi bIsi (pa_cons (pv 0) (pa_cons (pe_bltn (by rfl) T.bool (v := .ty "bool") (by decide +kernel) rfl) pa_nil))))))), ?_⟩
  refine ⟨_, rfl, _, _, _, _, _, rfl, .ty "int", ty, k1, b, rfl, ?_⟩
  cases b with
  | false => exact iteF q
  | true => exact iteT ⟨_, rfl, _, _, _, _, _, rfl, .ty "bool", ty, k2, c, rfl, q⟩
/-! ascending -/
theorem scAsc : FnScope ["values"] ["values"] (defScope sAsc) := ⟨rfl, rfl, rfl, by decide +kernel, rfl, by decide +kernel, by decide +kernel⟩
def spAsc : Sp := fun vs H Q _ => ∃ (l : Addr) (xs : List V), vs = [V.ref l] ∧ H l = some (.lst xs) ∧ xs.length < 64 ∧
  ((∃ ss : List Str, xs = ss.map V.str ∧ ∀ (r : Addr) (H' : Hp) (out : List Str), Same H H' → H r = none → out.Perm (once ss) → PyProof.Rows.sortedS out = true → H' r = some (.lst (out.map V.str)) → Q (.ref r) H') ∨
   (∃ ns : List Int, xs = ns.map V.int ∧ ∀ (r : Addr) (H' : Hp) (out : List Int), Same H H' → H r = none → out.Perm (once ns) → out.Pairwise (· ≤ ·) → H' r = some (.lst (out.map V.int)) → Q (.ref r) H'))
theorem ok_asc {f : Addr} {fd : FuncData} (F : Fun K "ascending" "ascending" sAsc f fd) (T : BltT mg) : FnOk P w K mg base CX0 1 f fd ["values"] spAsc := by
  refine F.ok scAsc (fun vs H Q E h => ?_) (fun cdv A outer s H vs Q E hr h => ?_)
  · obtain ⟨l, xs, rfl, _⟩ := h
    rfl
  obtain ⟨l, xs, rfl, hl, h64, h⟩ := h
  refine ⟨_, pss_one (ps_ret (pe_callB (cr_sortX (by rfl)) (by rfl) T.sorted (by decide +kernel) (pa_cons (pe_callTy (cr_setL (by rfl)) (by rfl) T.set (by decide +kernel) (pa_cons (pv 0) pa_nil)) pa_nil))), ?_⟩
  refine ⟨_, rfl, l, xs, rfl, .of hl, (by show xs.length + 1 < 4096; omega), ?_⟩
  rcases h with ⟨ss, rfl, q⟩ | ⟨ns, rfl, q⟩
  · refine .inl ⟨ss, rfl, fun p hp => ⟨p, rfl, .inl ⟨once ss, upd_same, Nat.lt_of_le_of_lt (once_len ss) (by simpa using h64), fun out r pm so hr' => ?_⟩⟩⟩
    have g1 : Same H (upd H p (SetS P w p (once ss))) := same_upd hp _
    exact q r _ out (g1.trans (same_upd hr' _)) (g1.free hr') pm so upd_same
  · refine .inr ⟨ns, rfl, fun p hp => ⟨p, rfl, .inr ⟨once ns, upd_same, Nat.lt_of_le_of_lt (once_len ns) (by simpa using h64), fun out r pm so hr' => ?_⟩⟩⟩
    have g1 : Same H (upd H p (SetI P w p (once ns))) := same_upd hp _
    exact q r _ out (g1.trans (same_upd hr' _)) (g1.free hr') pm so upd_same
/-! _depth_of -/
abbrev nmDepth : List Str := ["tree", "part"]
theorem scDepth : FnScope nmDepth ["tree"] (defScope sDepth) := ⟨rfl, rfl, rfl, by decide +kernel, rfl, by decide +kernel, by decide +kernel⟩
def spDepth (n : Nat) : Sp := fun vs H Q _ => ∃ (v : V) (t : Tr), vs = [v] ∧ TrAt H v t ∧ t.deep ≤ n ∧ ∀ H', Same H H' → Q (.int (t.deep : Int)) H'
theorem none_depth {f : Addr} {fd : FuncData} : FnOk P w K mg base CX0 0 f fd ["tree"] (spDepth 0) := by
  have no : ∀ vs H Q E, ¬ spDepth 0 vs H Q E := fun vs H Q E h => by
    obtain ⟨v, t, _, _, hd, _⟩ := h
    have z := t.deep_pos
    omega
  exact ⟨fun vs H Q E h => absurd h (no vs H Q E), fun A outer s H args us vs Q E _ _ _ _ h => absurd h (no vs H Q E)⟩
theorem ok_depth {n : Nat} {f : Addr} {fd : FuncData} (F : Fun K "_depth_of" "_depth_of" sDepth f fd) (T : BltT mg) (b : Binds K fd ["tree"] []) (m : mg "_depth_of" = some (.ref f)) (G : FnOk P w K mg base CX0 n f fd ["tree"] (spDepth n)) :
    FnOk P w K mg base CX0 (n + 1) f fd ["tree"] (spDepth (n + 1)) := by
  refine F.ok scDepth (fun vs H Q E h => ?_) (fun cdv A outer s H vs Q E hr h => ?_)
  · obtain ⟨v, t, rfl, _⟩ := h
    rfl
  obtain ⟨v, t, rfl, ht, hd, q⟩ := h
  refine ⟨_, pss_cons (ps_if (pt_not (pt_val (pe_callB call_isi (by rfl) T.isi bIsi (pa_cons (pv 0) (pa_cons (pe_bltn (by rfl) T.tup (v := .ty "tuple") (by decide +kernel) rfl) pa_nil)))))
      (pss_one (ps_ret pe_int)) pss_nil)
    (pss_one (ps_ret (pe_op op_add pe_int (pe_callB (cr_max (by rfl)) (by rfl) T.max (by decide +kernel) (pa_cons
      (pe_lc (own := [("part", 1)]) (g := gName 1) (tt := tYes) (by rfl) scDepth.nd (pi_tup (pv 0)) (blkOk_by (own := [("part", 1)]) (N := nmDepth) (sc := defScope sDepth) (by decide +kernel)) (fun _ _ _ _ _ => pg_name (i := 1) scDepth.nd rfl (Or.inl rfl)) (fun _ _ _ _ _ => pts_nil)
        (fun _ _ _ _ _ => pe_call G hr rfl m F.kp b .nil pass0 (pa_cons (pv 1) pa_nil))) pa_nil))))), ?_⟩
  obtain ⟨u, c, hty, hk, hc⟩ := isT (K := K) ht
  refine ⟨_, rfl, _, _, _, _, _, rfl, .ty "tuple", hty, hk, _, rfl, ?_⟩
  rcases hc with ⟨rfl, a, b', c, d, rfl⟩ | ⟨rfl, hc⟩
  · refine iteF ?_
    cases ht with
    | ch hp ha hb hc hdd =>
      rename_i p y0 y1 y2 y3
      have dd : a.deep ≤ n ∧ b'.deep ≤ n ∧ c.deep ≤ n ∧ d.deep ≤ n := by
        simp only [Tr.deep] at hd
        omega
      refine ⟨_, rfl, p, rfl, ⟨_, SqT.of hp⟩, fun D hD => lc_mapT (ys := [.int a.deep, .int b'.deep, .int c.deep, .int d.deep]) hp rfl (by show 4 ≤ 1000; decide) hD (fun _ => rfl) (fun i x y H1 R hx hy s1' hR => ?_) (fun H1 g1 hD1 => ?_)⟩
      · refine ⟨_, rfl, ?_⟩
        rcases i with _ | _ | _ | _ | i
        · cases hx
          cases hy
          exact ⟨_, a, rfl, ha.same s1', dd.1, hR⟩
        · cases hx
          cases hy
          exact ⟨_, b', rfl, hb.same s1', dd.2.1, hR⟩
        · cases hx
          cases hy
          exact ⟨_, c, rfl, hc.same s1', dd.2.2.1, hR⟩
        · cases hx
          cases hy
          exact ⟨_, d, rfl, hdd.same s1', dd.2.2.2, hR⟩
        · simp at hx
      · refine ⟨D, [(a.deep : Int), b'.deep, c.deep, d.deep], rfl, SqL.of hD1, by show 0 < 4; decide, fun m hm hy => ?_⟩
        refine ⟨_, _, rfl, rfl, ?_⟩
        have e : (1 : Int) + m = (((Tr.ch a b' c d).deep : Nat) : Int) := by
          simp only [Tr.deep]
          have h1 := hy a.deep (by simp)
          have h2 := hy b'.deep (by simp)
          have h3 := hy c.deep (by simp)
          have h4 := hy d.deep (by simp)
          simp only [List.mem_cons, List.not_mem_nil, or_false] at hm
          omega
        have q1 := q H1 g1
        rw [← e] at q1
        exact q1
  · refine iteT ?_
    have e : (t.deep : Int) = 1 := by
      rcases hc with ⟨k, rfl, rfl⟩ | ⟨x, rfl, rfl⟩ <;> rfl
    rw [← e]
    exact q H (Same.refl H)
/-! _kind_of -/
theorem scKind : FnScope ["tree"] ["tree"] (defScope sKind) := ⟨rfl, rfl, rfl, by decide +kernel, rfl, by decide +kernel, by decide +kernel⟩
def spKind : Sp := fun vs H Q _ => ∃ (v : V) (t : Tr), vs = [v] ∧ TrAt H v t ∧ Q (.str t.kind) H
theorem ok_kind {f : Addr} {fd : FuncData} (F : Fun K "_kind_of" "_kind_of" sKind f fd) (T : BltT mg) : FnOk P w K mg base CX0 1 f fd ["tree"] spKind := by
  refine F.ok scKind (fun vs H Q E h => ?_) (fun cdv A outer s H vs Q E hr h => ?_)
  · obtain ⟨v, t, rfl, _⟩ := h
    rfl
  obtain ⟨v, t, rfl, ht, q⟩ := h
  refine ⟨_, pss_cons (ps_if (pt_val (pe_callB call_isi (by rfl) T.isi bIsi (pa_cons (pv 0) (pa_cons (pe_bltn (by rfl) T.tup (v := .ty "tuple") (by decide +kernel) rfl) pa_nil))))
      (pss_one (ps_ret pe_str)) pss_nil)
    (pss_one (ps_ret (pe_ifExp (pt_val (pe_callB call_isi (by rfl) T.isi bIsi (pa_cons (pv 0) (pa_cons (pe_bltn (by rfl) T.str (v := .ty "str") (by decide +kernel) rfl) pa_nil)))) pe_str pe_str))), ?_⟩
  cases ht with
  | num n => exact ⟨_, rfl, _, _, _, _, _, rfl, .ty "tuple", .base (.int n), kit_ty (b := "tuple") (r := false) (by decide +kernel), _, rfl, iteF ⟨_, rfl, _, _, _, _, _, rfl, .ty "str", .base (.int n), kit_ty (r := false) (by decide +kernel), _, rfl, iteF q⟩⟩
  | wd x => exact ⟨_, rfl, _, _, _, _, _, rfl, .ty "tuple", .base (.str x), kit_ty (r := false) (by decide +kernel), _, rfl, iteF ⟨_, rfl, _, _, _, _, _, rfl, .ty "str", .base (.str x), kit_ty (r := true) (by decide +kernel), _, rfl, iteT q⟩⟩
  | ch h _ _ _ _ => exact ⟨_, rfl, _, _, _, _, _, rfl, .ty "tuple", .base (.tup h), kit_ty (r := true) (by decide +kernel), _, rfl, iteT q⟩
/-! _leaves_of -/
abbrev nmLeaves : List Str := ["tree", "part", "leaf"]
theorem scLeaves : FnScope nmLeaves ["tree"] (defScope sLeaves) := ⟨rfl, rfl, rfl, by decide +kernel, rfl, by decide +kernel, by decide +kernel⟩
def spLeaves (n : Nat) : Sp := fun vs H Q _ => ∃ (v : V) (t : Tr), vs = [v] ∧ TrAt H v t ∧ t.deep ≤ n ∧ t.leaves.length ≤ 1000 ∧ ∀ (r : Addr) (H' : Hp), Same H H' → H r = none → H' r = some (.lst t.leaves) → Q (.ref r) H'
theorem none_leaves {f : Addr} {fd : FuncData} : FnOk P w K mg base CX0 0 f fd ["tree"] (spLeaves 0) := by
  have no : ∀ vs H Q E, ¬ spLeaves 0 vs H Q E := fun vs H Q E h => by
    obtain ⟨v, t, _, _, hd, _⟩ := h
    have z := t.deep_pos
    omega
  exact ⟨fun vs H Q E h => absurd h (no vs H Q E), fun A outer s H args us vs Q E _ _ _ _ h => absurd h (no vs H Q E)⟩
theorem ok_leaves {n : Nat} {f : Addr} {fd : FuncData} (F : Fun K "_leaves_of" "_leaves_of" sLeaves f fd) (T : BltT mg) (b : Binds K fd ["tree"] []) (m : mg "_leaves_of" = some (.ref f)) (G : FnOk P w K mg base CX0 n f fd ["tree"] (spLeaves n)) :
    FnOk P w K mg base CX0 (n + 1) f fd ["tree"] (spLeaves (n + 1)) := by
  refine F.ok scLeaves (fun vs H Q E h => ?_) (fun cdv A outer s H vs Q E hr h => ?_)
  · obtain ⟨v, t, rfl, _⟩ := h
    rfl
  obtain ⟨v, t, rfl, ht, hd, hlen, q⟩ := h
  refine ⟨_, pss_cons (ps_if (pt_not (pt_val (pe_callB call_isi (by rfl) T.isi bIsi (pa_cons (pv 0) (pa_cons (pe_bltn (by rfl) T.tup (v := .ty "tuple") (by decide +kernel) rfl) pa_nil)))))
      (pss_one (ps_ret (pe_lst (pa_cons (pv 0) pa_nil)))) pss_nil)
    (pss_one (ps_ret (pe_lc2 (own := [("part", 1), ("leaf", 2)]) (vs1 := [2]) (g := gName 1) (g1 := gName 2) (tt := tYes) (tt1 := tYes) (te := tVar 2) (wi1 := iList K (tCall (spLeaves n) [] E0 (tCons (tVar 1) tNil))) (by rfl) scLeaves.nd (pi_tup (pv 0)) (blkOk_by (own := [("part", 1), ("leaf", 2)]) (N := nmLeaves) (sc := defScope sLeaves) (by decide +kernel)) (by decide)
        (fun _ _ _ _ _ => pg_name (i := 1) scLeaves.nd rfl (Or.inl rfl)) (fun _ _ _ _ _ => pts_nil)
        (fun _ _ _ _ _ => pi_list (pe_call G hr rfl m F.kp b .nil pass0 (pa_cons (pv 1) pa_nil)))
        (fun _ _ _ _ _ => pg_name (i := 2) scLeaves.nd rfl (Or.inl rfl)) (fun _ _ _ _ _ => pts_nil) (fun _ _ _ _ _ => pv 2)))), ?_⟩
  obtain ⟨u, c, hty, hk, hc⟩ := isT (K := K) ht
  refine ⟨_, rfl, _, _, _, _, _, rfl, .ty "tuple", hty, hk, _, rfl, ?_⟩
  rcases hc with ⟨rfl, a, b', c, d, rfl⟩ | ⟨rfl, hc⟩
  · refine iteF ?_
    cases ht with
    | ch hp ha hb hc hdd =>
      rename_i p y0 y1 y2 y3
      have dd : a.deep ≤ n ∧ b'.deep ≤ n ∧ c.deep ≤ n ∧ d.deep ≤ n := by
        simp only [Tr.deep] at hd
        omega
      have ll : a.leaves.length ≤ 1000 ∧ b'.leaves.length ≤ 1000 ∧ c.leaves.length ≤ 1000 ∧ d.leaves.length ≤ 1000 := by
        simp only [Tr.leaves, List.length_append, List.length_nil] at hlen
        omega
      refine ⟨_, rfl, p, rfl, ⟨_, SqT.of hp⟩, fun D hD => lc_flatT (zs := [a.leaves, b'.leaves, c.leaves, d.leaves]) hp rfl hlen hD (fun _ => rfl) (fun _ _ => rfl) (fun _ _ => rfl) (fun i x y H1 R hx hy s1' hR => ?_) (fun H1 g1 hD1 => q D H1 g1 hD hD1)⟩
      refine ⟨_, rfl, ?_⟩
      rcases i with _ | _ | _ | _ | i
      · cases hx
        cases hy
        exact ⟨_, a, rfl, ha.same s1', dd.1, ll.1, hR⟩
      · cases hx
        cases hy
        exact ⟨_, b', rfl, hb.same s1', dd.2.1, ll.2.1, hR⟩
      · cases hx
        cases hy
        exact ⟨_, c, rfl, hc.same s1', dd.2.2.1, ll.2.2.1, hR⟩
      · cases hx
        cases hy
        exact ⟨_, d, rfl, hdd.same s1', dd.2.2.2, ll.2.2.2, hR⟩
      · simp at hx
  · refine iteT ?_
    refine ⟨_, rfl, (by show 1 ≤ sizeLine; decide), fun r hr' => ?_⟩
    have e : t.leaves = [v] := by
      rcases hc with ⟨k, rfl, rfl⟩ | ⟨x, rfl, rfl⟩ <;> rfl
    refine q r _ (same_upd hr' _) hr' ?_
    rw [upd_same, e]
end
end TS
namespace TS
open PySem L2
abbrev sWord : Stmt := top 15
abbrev sChoice : Stmt := top 16
abbrev sTree : Stmt := top 17
abbrev sTreeText : Stmt := top 18
/-- a loop over a text's signs -/
theorem for_strI {x : Str} {g : TG} {tb : TS} {D : Ends} {σ : St} {H : Hp} (Pv : Nat → St → Hp → Prop) (h0 : Pv 0 σ H)
    (hs : ∀ i c σ H, x.cps.toList[i]? = some c → Pv i σ H → g (.str ⟨#[c]⟩) σ H fun σ2 H2 => tb { D with nx := Pv (i + 1), ct := Pv (i + 1), bk := D.nx } σ2 H2) (hd : ∀ σ H, Pv x.cps.toList.length σ H → D.nx σ H) :
    ∃ W : Nat → Nat → St → Hp → Prop, (∃ m, W 0 m σ H) ∧ ∀ i m σ H, W i m σ H →
      ((Its x).stop i H ∧ D.nx σ H) ∨ ((Its x).go i H ∧ ∃ N : St → Hp → Prop, (∀ σ' H', N σ' H' → ∃ m', m' < m ∧ W (i + 1) m' σ' H') ∧ ∀ y H', (Its x).yld i H y H' → g y σ H' fun σ2 H2 => tb { D with nx := N, ct := N, bk := D.nx } σ2 H2) := by
  have el : x.cps.toList.length = x.cps.size := by simp
  refine ⟨fun i m σ H => m = x.cps.size - i ∧ i ≤ x.cps.size ∧ Pv i σ H, ⟨x.cps.size, by simp, Nat.zero_le _, h0⟩, ?_⟩
  rintro i m σ H ⟨rfl, hi, p⟩
  by_cases hlt : i < x.cps.size
  · refine .inr ⟨hlt, Pv (i + 1), fun σ' H' p' => ⟨x.cps.size - (i + 1), by omega, rfl, hlt, p'⟩, fun v H' y => ?_⟩
    obtain ⟨e, c, hc, ev⟩ := y
    subst e ev
    exact hs i c σ _ (by rw [← hc]; simp) p
  · have e : i = x.cps.size := by omega
    subst e
    exact .inl ⟨Nat.le_refl _, hd σ H (by rw [el]; exact p)⟩
section
variable {P : Program} {w : World} {K : PySem.W.Frag} {mg : Str → Option Value} {base : Heap}
/-- the module's constants -/
structure CstT (mg : Str → Option Value) : Prop where
  letters : ∃ t, mg "LETTERS" = some (.str "abcdefghijklmnopqrstuvwxyz" t)
  digits : ∃ t, mg "DIGITS" = some (.str "0123456789" t)
  signs : ∃ t, mg "PART_SIGNS" = some (.str "(=?:" t)
  most : ∃ t, mg "MOST_LETTERS" = some (.int 8 t)
  deep : ∃ t, mg "MOST_DEPTH" = some (.int 3 t)
/-! _word_end -/
theorem scWord : FnScope ["text", "at", "end"] ["text", "at"] (defScope sWord) := ⟨rfl, rfl, rfl, by decide +kernel, rfl, by decide +kernel, by decide +kernel⟩
def spWord : Sp := fun vs H Q _ => ∃ (z : Str) (i : Nat), vs = [.str z, .int i] ∧ z.length ≤ 100000 ∧ i ≤ z.length ∧ Q (.int (wend z.cps.toList i : Nat)) H
theorem wend_let {cs : List Nat} {i c : Nat} (h : cs[i]? = some c) (hc : isLet c = true) : wend cs i = wend cs (i + 1) := by
  have hi : i < cs.length := (List.getElem?_eq_some_iff.mp h).1
  have hg : cs[i] = c := (List.getElem?_eq_some_iff.mp h).2
  unfold wend
  rw [List.drop_eq_getElem_cons hi, hg, List.takeWhile_cons_of_pos hc, List.length_cons]
  omega
theorem wend_no {cs : List Nat} {i c : Nat} (h : cs[i]? = some c) (hc : isLet c = false) : wend cs i = i := by
  have hi : i < cs.length := (List.getElem?_eq_some_iff.mp h).1
  have hg : cs[i] = c := (List.getElem?_eq_some_iff.mp h).2
  unfold wend
  rw [List.drop_eq_getElem_cons hi, hg, List.takeWhile_cons_of_neg (by simp [hc])]
  rfl
theorem wend_end {cs : List Nat} {i : Nat} (h : cs.length ≤ i) : wend cs i = i := by
  unfold wend
  rw [List.drop_of_length_le h]
  rfl
theorem ok_word {f : Addr} {fd : FuncData} (F : Fun K "_word_end" "_word_end" sWord f fd) (T : BltT mg) (M : CstT mg) : FnOk P w K mg base CX0 1 f fd ["text", "at"] spWord := by
  refine F.ok scWord (fun vs H Q E h => ?_) (fun cdv A outer s H vs Q E hr h => ?_)
  · obtain ⟨z, i, rfl, _⟩ := h
    rfl
  obtain ⟨z, i, rfl, hz, hi, q⟩ := h
  obtain ⟨tl, ml⟩ := M.letters
  refine ⟨_, pss_cons (ps_set (i := 2) scWord.nd rfl (.inl rfl) (pv 1))
    (pss_cons (ps_while PassesOwn.never (PW.pt (pw_and (pt_cmpR op_lt (pv 2) (pe_callB call_len_str (by rfl) T.len PySem.boot_len (pa_cons (pv 0) pa_nil)) (nomark _))
        (pw_and1 (pt_cmpR op_in_sign (pe_ix ix_str (pv 0) (pv 2) (fun _ _ => rfl)) (pe_glob rfl ml (show RelV (.str "abcdefghijklmnopqrstuvwxyz") (.str "abcdefghijklmnopqrstuvwxyz" tl) from ⟨_, rfl⟩)) rfl)))) (pss_one (ps_aug (i := 2) scWord.nd rfl (.inl rfl) pe_int ip_add)))
    (pss_one (ps_ret (pv 2)))), ?_⟩
  have zc : z.cps.toList.length = z.length := len_codes z
  refine ⟨_, rfl, fun m σ' H' => ∃ j : Nat, σ' = [some (.str z), some (.int i), some (.int j)] ∧ H = H' ∧ j ≤ z.length ∧ m = z.length - j ∧ wend z.cps.toList j = wend z.cps.toList i, ⟨z.length - i, i, rfl, rfl, hi, rfl, rfl⟩, ?_⟩
  rintro m σ' H' ⟨j, rfl, rfl, hj, rfl, ew⟩
  have big : z.length ≤ sizeLine := Nat.le_trans hz (by decide)
  refine ⟨_, rfl, _, rfl, z, rfl, big, _, _, rfl, rfl, _, rfl, ?_⟩
  refine ite2 (fun c => ?_) (fun c => ?_)
  · have hlt : j < z.length := by
      have := of_decide_eq_true c
      omega
    obtain ⟨x, hx⟩ : ∃ x, z.cps.toList[j]? = some x := ⟨_, List.getElem?_eq_getElem (by omega)⟩
    refine ⟨_, rfl, _, rfl, z, _, x, rfl, rfl, big, atI_nat hx, x, _, rfl, rfl, _, rfl, ?_⟩
    refine ite2 (fun c1 => ?_) (fun c1 => ?_)
    · refine ⟨fun σ' H' => σ' = [some (.str z), some (.int i), some (.int ((j + 1 : Nat) : Int))] ∧ H = H', ?_, ?_⟩
      · rintro σ2 H2 ⟨rfl, rfl⟩
        exact ⟨z.length - (j + 1), by omega, j + 1, rfl, rfl, hlt, rfl, by rw [← wend_let hx c1]; exact ew⟩
      · exact ⟨_, rfl, _, _, rfl, rfl, rfl, rfl⟩
    · have e : wend z.cps.toList j = j := wend_no hx (by simpa [isLet] using c1)
      rw [← ew, e] at q
      exact ⟨_, rfl, q⟩
  · have hge : z.length ≤ j := by
      have : ¬ ((j : Int) < (z.length : Int)) := fun h => c (decide_eq_true h)
      omega
    have e : wend z.cps.toList j = j := wend_end (by omega)
    rw [← ew, e] at q
    refine iteF ?_
    exact ⟨_, rfl, q⟩
/-! _choice_at and _tree_at -/
/-- what the reader hands back -/
def TreeRes (H : Hp) (o : Option (Tr × Nat)) (Q : VK) : Prop := match o with
  | none => ∀ H', Same H H' → Q .non H'
  | some (t, e) => ∀ (H' : Hp) (p : Addr) (v : V), Same H H' → H p = none → H' p = some (.tup [v, .int e]) → TrAt H' v t → Q (.ref p) H'
def spTree (r : Nat) : Sp := fun vs H Q _ => ∃ (z : Str) (i room : Nat), vs = [.str z, .int i, .int room] ∧ z.length ≤ 100000 ∧ i ≤ 200000 ∧ room ≤ r ∧ TreeRes H (treeAt z room i) Q
def spChoice (r : Nat) : Sp := fun vs H Q _ => ∃ (z : Str) (i room : Nat), vs = [.str z, .int i, .int ((room + 1 : Nat) : Int)] ∧ z.length ≤ 100000 ∧ i ≤ z.length ∧ room + 1 ≤ r ∧ TreeRes H (choiceAt (treeAt z room) z.cps.toList i) Q
theorem none_choice {f : Addr} {fd : FuncData} {k : Nat} : FnOk P w K mg base CX0 k f fd ["text", "at", "room"] (spChoice 0) := by
  have no : ∀ vs H Q E, ¬ spChoice 0 vs H Q E := fun vs H Q E h => by
    obtain ⟨z, i, room, _, _, _, hr, _⟩ := h
    omega
  exact ⟨fun vs H Q E h => absurd h (no vs H Q E), fun A outer s H args us vs Q E _ _ _ _ h => absurd h (no vs H Q E)⟩
theorem scTree : FnScope ["text", "at", "room", "end"] ["text", "at", "room"] (defScope sTree) := ⟨rfl, rfl, rfl, by decide +kernel, rfl, by decide +kernel, by decide +kernel⟩
theorem sign_eq {c : Nat} {y : Str} {d : Nat} (hy : y.cps.toList = [d]) : decide (V.str ⟨#[c]⟩ = V.str y) = decide (c = d) := by
  have h : (V.str ⟨#[c]⟩ = V.str y) ↔ c = d := by
    constructor
    · intro e
      injection e with e
      rw [← e] at hy
      simpa using hy
    · intro e
      rw [e]
      congr 1
      exact str_ext (by rw [hy])
  exact decide_eq_decide.mpr h
theorem treeAt_none {z : Str} {r i : Nat} (h : z.cps.toList.length ≤ i) : treeAt z r i = none := by
  cases r with
  | zero => rfl
  | succ r =>
    unfold treeAt
    rw [List.getElem?_eq_none h]
theorem int_digit {c : Nat} (h : isDig c = true) : PySem.intText? ⟨#[c]⟩ = some ((c : Int) - 48) := by
  have h' := isDig_iff.mp h
  have e : c = 48 ∨ c = 49 ∨ c = 50 ∨ c = 51 ∨ c = 52 ∨ c = 53 ∨ c = 54 ∨ c = 55 ∨ c = 56 ∨ c = 57 := by omega
  rcases e with rfl | rfl | rfl | rfl | rfl | rfl | rfl | rfl | rfl | rfl <;> decide +kernel
theorem wend_le (cs : List Nat) (i : Nat) (h : i ≤ cs.length) : wend cs i ≤ cs.length := by
  unfold wend
  have h1 : ((cs.drop i).takeWhile isLet).length ≤ (cs.drop i).length := (List.takeWhile_sublist _).length_le
  rw [List.length_drop] at h1
  omega
theorem wend_ge (cs : List Nat) (i : Nat) : i ≤ wend cs i := Nat.le_add_right _ _
theorem ok_tree {n r : Nat} {f fw fc : Addr} {fd fdw fdc : FuncData} (F : Fun K "_tree_at" "_tree_at" sTree f fd) (T : BltT mg) (M : CstT mg)
    (FW : Fun K "_word_end" "_word_end" sWord fw fdw) (bw : Binds K fdw ["text", "at"] []) (mw : mg "_word_end" = some (.ref fw)) (FC : Fun K "_choice_at" "_choice_at" sChoice fc fdc) (bc : Binds K fdc ["text", "at", "room"] []) (mc : mg "_choice_at" = some (.ref fc))
    (GC : FnOk P w K mg base CX0 (n + 1) fc fdc ["text", "at", "room"] (spChoice r)) : FnOk P w K mg base CX0 (n + 2) f fd ["text", "at", "room"] (spTree r) := by
  refine F.ok scTree (fun vs H Q E h => ?_) (fun cdv A outer s H vs Q E hr h => ?_)
  · obtain ⟨z, i, room, rfl, _⟩ := h
    rfl
  obtain ⟨z, i, room, rfl, hz, hi, hroom, q⟩ := h
  obtain ⟨td, md⟩ := M.digits
  obtain ⟨tm, mm⟩ := M.most
  have GW : FnOk P w K mg base CX0 1 fw fdw ["text", "at"] spWord := ok_word FW T M
  refine ⟨_, pss_cons (ps_if (PW.pt (pw_or (pt_cmpR op_lt (pv 2) pe_int (nomark _)) (pw_or1 (pt_cmpR op_ge (pv 1) (pe_callB call_len_str (by rfl) T.len PySem.boot_len (pa_cons (pv 0) pa_nil)) (nomark _))))) (pss_one (ps_ret pe_non)) pss_nil)
    (pss_cons (ps_if (pt_cmpR op_eq (pe_ix ix_str (pv 0) (pv 1) (fun _ _ => rfl)) pe_str (nomark _)) (pss_one (ps_ret (pe_call GC hr rfl mc FC.kp bc .nil pass0 (pa_cons (pv 0) (pa_cons (pv 1) (pa_cons (pv 2) pa_nil)))))) pss_nil)
    (pss_cons (ps_if (pt_cmpR op_in_sign (pe_ix ix_str (pv 0) (pv 1) (fun _ _ => rfl)) (pe_glob rfl md (show RelV (.str "0123456789") (.str "0123456789" td) from ⟨_, rfl⟩)) rfl)
      (pss_one (ps_ret (pe_tup (pa_cons (pe_callTy call_int_str (by rfl) T.int (by decide +kernel) (pa_cons (pe_ix ix_str (pv 0) (pv 1) (fun _ _ => rfl)) pa_nil)) (pa_cons (pe_op op_add (pv 1) pe_int) pa_nil))))) pss_nil)
    (pss_cons (ps_set (i := 3) scTree.nd rfl (.inl rfl) (pe_call GW (hr.mono (by omega)) rfl mw FW.kp bw .nil pass0 (pa_cons (pv 0) (pa_cons (pv 1) pa_nil))))
    (pss_cons (ps_if (pt_chain op_le op_le pe_int (pe_op op_sub (pv 3) (pv 1)) (pe_glob rfl mm (show RelV (.int 8) (.int 8 tm) from ⟨_, rfl⟩))) (pss_one (ps_ret (pe_tup (pa_cons (pe_slice sl_str (pv 0) (po_some (pv 1)) (po_some (pv 3))) (pa_cons (pv 3) pa_nil))))) pss_nil)
    (pss_one (ps_ret pe_non)))))), ?_⟩
  have zc : z.cps.toList.length = z.length := len_codes z
  have big : z.length ≤ sizeLine := Nat.le_trans hz (by decide)
  refine ⟨_, rfl, _, _, rfl, rfl, _, rfl, ?_⟩
  cases room with
  | zero =>
    refine iteT ?_
    refine iteT ?_
    exact q H (Same.refl H)
  | succ room =>
    have e0 : decide ((((room + 1 : Nat)) : Int) < 1) = false := decide_eq_false (by omega)
    rw [e0]
    refine iteF ⟨_, rfl, _, rfl, z, rfl, big, _, _, rfl, rfl, _, rfl, ?_⟩
    by_cases hlt : i < z.length
    · rw [show decide ((i : Int) ≥ (z.length : Int)) = false from decide_eq_false (by omega)]
      refine iteF ?_
      obtain ⟨x, hx⟩ : ∃ x, z.cps.toList[i]? = some x := ⟨_, List.getElem?_eq_getElem (by omega)⟩
      have q' := q
      unfold treeAt at q'
      rw [hx] at q'
      simp only at q'
      have ix : ∀ {R : V → Hp → Prop}, R (.str ⟨#[x]⟩) H → (∃ v, some (some (V.str z)) = some (some v) ∧ ∃ v_1, some (some (V.int (i : Int))) = some (some v_1) ∧ rIxS v v_1 H R) := fun h => ⟨_, rfl, _, rfl, z, _, x, rfl, rfl, big, atI_nat hx, h⟩
      refine ix ⟨rfl, _, rfl, ?_⟩
      rw [sign_eq (y := "(") (d := 40) (by decide +kernel)]
      refine ite2 (fun c => ?_) (fun c => ?_)
      · have c := of_decide_eq_true c
        rw [if_pos c] at q'
        exact ⟨_, rfl, _, rfl, _, rfl, z, i, room, rfl, hz, by omega, hroom, q'⟩
      · have c : ¬ x = 40 := fun e => c (decide_eq_true e)
        rw [if_neg c] at q'
        refine ix ⟨x, _, rfl, rfl, _, rfl, ?_⟩
        refine ite2 (fun c1 => ?_) (fun c1 => ?_)
        · have c1 : isDig x = true := c1
          rw [if_pos c1] at q'
          refine ix ⟨_, _, rfl, int_digit c1, by show 1 ≤ 640; decide, _, rfl, _, _, rfl, rfl, by show 2 ≤ sizeLine; decide, fun p hp => ?_⟩
          exact q' _ p _ (same_upd hp _) hp upd_same (.num _)
        · have c1 : ¬ isDig x = true := c1
          rw [if_neg c1] at q'
          refine ⟨_, rfl, _, rfl, z, i, rfl, hz, by omega, ?_⟩
          have g1 := wend_ge z.cps.toList i
          have g2 := wend_le z.cps.toList i (by omega)
          generalize wend z.cps.toList i = e at q' g1 g2
          refine ⟨_, rfl, _, rfl, _, _, rfl, rfl, _, _, rfl, rfl, _, rfl, ?_⟩
          by_cases c2 : 1 ≤ e - i ∧ e - i ≤ 8
          · rw [if_pos c2] at q'
            rw [show decide ((1 : Int) ≤ (e : Int) - (i : Int)) = true from decide_eq_true (by omega)]
            refine iteT ⟨_, _, rfl, rfl, _, rfl, ?_⟩
            rw [show decide ((e : Int) - (i : Int) ≤ 8) = true from decide_eq_true (by omega)]
            refine iteT ?_
            refine ⟨_, rfl, ?_⟩
            refine ⟨_, rfl, _, rfl, ?_⟩
            refine ⟨_, rfl, _, rfl, z, rfl, big, _, rfl, by show 2 ≤ sizeLine; decide, fun p hp => ?_⟩
            exact q' _ p _ (same_upd hp _) hp upd_same (.wd _)
          · rw [if_neg c2] at q'
            refine ite2 (fun c3 => ⟨_, _, rfl, rfl, _, rfl, ?_⟩) (fun c3 => ⟨_, rfl, ?_⟩)
            · have c3 := of_decide_eq_true c3
              rw [show decide ((e : Int) - (i : Int) ≤ 8) = false from decide_eq_false (by omega)]
              refine iteF ?_
              exact q' H (Same.refl H)
            · refine iteF ?_
              exact q' H (Same.refl H)
    · rw [show decide ((i : Int) ≥ (z.length : Int)) = true from decide_eq_true (by omega)]
      refine iteT ?_
      rw [treeAt_none (by omega)] at q
      exact q H (Same.refl H)
end
end TS
namespace TS
open PySem L2
theorem cut1 (z : Str) (i : Nat) : (cutS z (some (i : Int)) (some ((i : Int) + 1))).cps.toList = (z.cps.toList.drop i).take 1 := by
  have zc : z.cps.toList.length = z.length := len_codes z
  have e1 : HT.sIx z.length 0 (some (i : Int)) = min i z.length := HT.sIx_nat _ _ _
  have e2 : HT.sIx z.length z.length (some ((i : Int) + 1)) = min (i + 1) z.length := HT.sIx_nat _ _ (i + 1)
  unfold cutS
  rw [e1, e2]
  by_cases h : i < z.length
  · rw [Nat.min_eq_left (by omega), Nat.min_eq_left (by omega), Nat.add_sub_cancel_left]
  · rw [Nat.min_eq_right (by omega), Nat.min_eq_right (by omega), Nat.sub_self, List.drop_of_length_le (by omega), List.drop_of_length_le (by omega)]
    rfl
theorem cut1_eq {z : Str} {i d : Nat} {y : Str} (hy : y.cps.toList = [d]) : (cutS z (some (i : Int)) (some ((i : Int) + 1)) = y) ↔ z.cps.toList[i]? = some d := by
  have h := cut1 z i
  constructor
  · intro e
    rw [e, hy] at h
    have : (z.cps.toList.drop i)[0]? = some d := by
      cases hq : z.cps.toList.drop i with
      | nil => rw [hq] at h; simp at h
      | cons c cs =>
        rw [hq] at h
        simp at h
        simp [h]
    rw [List.getElem?_drop] at this
    simpa using this
  · intro e
    apply str_ext
    have hi : i < z.cps.toList.length := (List.getElem?_eq_some_iff.mp e).1
    have hg : z.cps.toList[i] = d := (List.getElem?_eq_some_iff.mp e).2
    rw [h, hy, List.drop_eq_getElem_cons hi, hg]
    rfl
theorem cut1_dec {z : Str} {i d : Nat} {y : Str} (hy : y.cps.toList = [d]) : decide (V.str (cutS z (some (i : Int)) (some ((i : Int) + 1))) = V.str y) = decide (z.cps.toList[i]? = some d) := by
  refine decide_eq_decide.mpr ⟨fun e => ?_, fun e => ?_⟩
  · injection e with e
    exact (cut1_eq hy).mp e
  · rw [(cut1_eq hy).mpr e]
/-- a list that is changed changes no tree -/
theorem trAt_upd {H : Hp} {v : V} {t : Tr} {l : Addr} {xs : List V} {o : HO} (h : TrAt H v t) (hl : H l = some (.lst xs)) : TrAt (upd H l o) v t := by
  induction h with
  | num n => exact .num n
  | wd x => exact .wd x
  | ch h _ _ _ _ a b c d => exact .ch (by rw [upd_ne (ne_of h hl (by intro z; cases z))]; exact h) a b c d
/-- values that are the trees of a list, one by one -/
def TrsAt (H : Hp) (vs : List V) (ts : List Tr) : Prop := vs.length = ts.length ∧ ∀ (i : Nat) v t, vs[i]? = some v → ts[i]? = some t → TrAt H v t
theorem TrsAt.nil {H : Hp} : TrsAt H [] [] := ⟨rfl, fun i v t h _ => by simp at h⟩
theorem TrsAt.same {H H' : Hp} {vs : List V} {ts : List Tr} (h : TrsAt H vs ts) (s : Same H H') : TrsAt H' vs ts := ⟨h.1, fun i v t a b => (h.2 i v t a b).same s⟩
theorem TrsAt.snoc {H : Hp} {vs : List V} {ts : List Tr} {v : V} {t : Tr} (h : TrsAt H vs ts) (g : TrAt H v t) : TrsAt H (vs ++ [v]) (ts ++ [t]) := by
  refine ⟨by simp [h.1], fun i a b ha hb => ?_⟩
  by_cases hi : i < vs.length
  · rw [List.getElem?_append_left hi] at ha
    rw [List.getElem?_append_left (by rw [← h.1]; exact hi)] at hb
    exact h.2 i a b ha hb
  · rw [List.getElem?_append_right (by omega)] at ha
    rw [List.getElem?_append_right (by rw [← h.1]; omega), ← h.1] at hb
    cases hq : i - vs.length with
    | zero =>
      rw [hq] at ha hb
      simp at ha hb
      subst ha hb
      exact g
    | succ k =>
      rw [hq] at ha
      simp at ha
theorem TrsAt.four {H : Hp} {vs : List V} {a b c d : Tr} (h : TrsAt H vs [a, b, c, d]) : ∃ u v y z, vs = [u, v, y, z] ∧ TrAt H u a ∧ TrAt H v b ∧ TrAt H y c ∧ TrAt H z d := by
  obtain ⟨hl, h⟩ := h
  match vs, hl with
  | [u, v, y, z], _ => exact ⟨u, v, y, z, rfl, h 0 _ _ rfl rfl, h 1 _ _ rfl rfl, h 2 _ _ rfl rfl, h 3 _ _ rfl rfl⟩
theorem partsAt_len {p : Nat → Option (Tr × Nat)} {cs : List Nat} : ∀ {ss : List Nat} {i : Nat} {ts : List Tr} {e : Nat}, partsAt p cs ss i = some (ts, e) → ts.length = ss.length
  | [], i, ts, e, h => by
    simp only [partsAt, Option.some.injEq, Prod.mk.injEq] at h
    rw [← h.1]
    rfl
  | s :: ss, i, ts, e, h => by
    unfold partsAt at h
    split at h
    · split at h
      · cases h
      · split at h
        · cases h
        · rename_i h2
          simp only [Option.some.injEq, Prod.mk.injEq] at h
          rw [← h.1, List.length_cons, List.length_cons, partsAt_len h2]
    · cases h
section
variable {P : Program} {w : World} {K : PySem.W.Frag} {mg : Str → Option Value} {base : Heap}
abbrev nmChoice : List Str := ["text", "at", "room", "parts", "sign", "found", "part"]
theorem scChoice : FnScope nmChoice ["text", "at", "room"] (defScope sChoice) := ⟨rfl, rfl, rfl, by decide +kernel, rfl, by decide +kernel, by decide +kernel⟩
theorem sign_codes : ("(=?:" : Str).cps.toList = [40, 61, 63, 58] := by decide +kernel
theorem isNon_dec {v : V} {p : Addr} (h : v = .ref p) : decide (v = V.non) = false := by
  subst h
  exact decide_eq_false (fun e => nomatch e)
theorem ok_choice {n r : Nat} {f ft : Addr} {fd fdt : FuncData} (F : Fun K "_choice_at" "_choice_at" sChoice f fd) (T : BltT mg) (M : CstT mg)
    (FT : Fun K "_tree_at" "_tree_at" sTree ft fdt) (bt : Binds K fdt ["text", "at", "room"] []) (mt : mg "_tree_at" = some (.ref ft))
    (GT : FnOk P w K mg base CX0 n ft fdt ["text", "at", "room"] (spTree r)) : FnOk P w K mg base CX0 (n + 1) f fd ["text", "at", "room"] (spChoice (r + 1)) := by
  refine F.ok scChoice (fun vs H Q E h => ?_) (fun cdv A outer s H vs Q E hr h => ?_)
  · obtain ⟨z, i, room, rfl, _⟩ := h
    rfl
  obtain ⟨z, i, room, rfl, hz, hi, hroom, q⟩ := h
  obtain ⟨ts, ms⟩ := M.signs
  refine ⟨_, pss_cons (ps_set (i := 3) scChoice.nd rfl (.inl rfl) (pe_lst pa_nil))
    (pss_cons (ps_for PassesOwn.never rfl (pi_str (pe_glob rfl ms (show RelV (.str "(=?:") (.str "(=?:" ts) from ⟨_, rfl⟩))) (pg_name (i := 4) scChoice.nd rfl (.inl rfl))
      (pss_cons (ps_set (i := 5) scChoice.nd rfl (.inl rfl) (pe_ifExp (pt_cmpR op_eq (pe_slice sl_str (pv 0) (po_some (pv 1)) (po_some (pe_op op_add (pv 1) pe_int))) (pv 4) (nomark _))
          (pe_call GT hr rfl mt FT.kp bt .nil pass0 (pa_cons (pv 0) (pa_cons (pe_op op_add (pv 1) pe_int) (pa_cons (pe_op op_sub (pv 2) pe_int) pa_nil)))) pe_non))
      (pss_cons (ps_if (pt_cmpR op_isN (pv 5) pe_non (nomark _)) (pss_one (ps_ret pe_non)) pss_nil)
      (pss_cons (ps_asg (pv 5) (pg_tup (by rfl) (pgs_cons (pg_name (i := 6) scChoice.nd rfl (.inl rfl)) (pgs_cons (pg_name (i := 1) scChoice.nd rfl (.inl rfl)) pgs_nil))))
      (pss_one (ps_expr (pe_bm PySem.F.plainAttrs_list PySem.F.slot_list_append PySem.F.type_list_append mt_append (pv 3) (pa_cons (pv 6) pa_nil))))))))
    (pss_cons (ps_if (pt_cmpR op_ne (pe_slice sl_str (pv 0) (po_some (pv 1)) (po_some (pe_op op_add (pv 1) pe_int))) pe_str (nomark _)) (pss_one (ps_ret pe_non)) pss_nil)
    (pss_one (ps_ret (pe_tup (pa_cons (pe_callTy call_tuple_of (by rfl) T.tup (by decide +kernel) (pa_cons (pv 3) pa_nil)) (pa_cons (pe_op op_add (pv 1) pe_int) pa_nil))))))), ?_⟩
  have zc : z.cps.toList.length = z.length := len_codes z
  have big : z.length ≤ sizeLine := Nat.le_trans hz (by decide)
  refine ⟨by show 0 ≤ sizeLine; decide, fun l hl => ?_⟩
  refine ⟨_, rfl, for_strI (fun k σ' H1 => ∃ (j : Nat) (done : List Tr) (vs : List V) (s4 s5 s6 : Option V), σ' = [some (.str z), some (.int j), some (.int ((room + 1 : Nat) : Int)), some (.ref l), s4, s5, s6] ∧ Same H H1 ∧ H1 l = some (.lst vs) ∧ TrsAt H1 vs done ∧ done.length = k ∧
      partsAt (treeAt z room) z.cps.toList [40, 61, 63, 58] i = (partsAt (treeAt z room) z.cps.toList ([40, 61, 63, 58].drop k) j).map fun x => (done ++ x.1, x.2)) ?_ ?_ ?_⟩
  · refine ⟨i, [], [], none, none, none, rfl, same_upd hl _, upd_same, TrsAt.nil, rfl, ?_⟩
    simp only [List.drop_zero, List.nil_append]
    cases partsAt (treeAt z room) z.cps.toList [40, 61, 63, 58] i with
    | none => rfl
    | some x => rfl
  · rintro k c σ' H1 hc ⟨j, done, vs, s4, s5, s6, rfl, s1, l1, tr, hk, ep⟩
    rw [sign_codes] at hc
    have hk4 : k < 4 := (List.getElem?_eq_some_iff.mp hc).1
    have hdr : [40, 61, 63, 58].drop k = c :: [40, 61, 63, 58].drop (k + 1) := by
      rw [List.drop_eq_getElem_cons (by exact hk4)]
      have := (List.getElem?_eq_some_iff.mp hc).2
      rw [this]
    generalize e0 : partsAt (treeAt z room) z.cps.toList [40, 61, 63, 58] i = L at ep
    rw [hdr] at ep
    unfold partsAt at ep
    have hcc : (⟨#[c]⟩ : Str).cps.toList = [c] := rfl
    refine ⟨_, rfl, _, rfl, _, rfl, _, rfl, _, _, rfl, rfl, _, rfl, z, rfl, big, _, rfl, rfl, _, rfl, ?_⟩
    rw [cut1_dec hcc]
    have non : choiceAt (treeAt z room) z.cps.toList i = none → ∀ H', Same H H' → Q .non H' := fun e => by
      rw [e] at q
      exact q
    refine ite2 (fun cc => ?_) (fun cc => ?_)
    · have cc := of_decide_eq_true cc
      rw [if_pos cc] at ep
      have hj : j < z.length := by
        have := (List.getElem?_eq_some_iff.mp cc).1
        omega
      refine ⟨_, rfl, _, rfl, _, _, rfl, rfl, _, rfl, _, _, rfl, rfl, z, j + 1, room, ?_, hz, by omega, by omega, ?_⟩
      · have e : (((room + 1 : Nat) : Int)) - 1 = (room : Int) := by omega
        show [V.str z, V.int ((j : Int) + 1), V.int (((room + 1 : Nat) : Int) - 1)] = _
        rw [e]
        rfl
      cases et : treeAt z room (j + 1) with
      | none =>
        rw [et] at ep
        have e : choiceAt (treeAt z room) z.cps.toList i = none := by
          unfold choiceAt
          rw [e0, ep]
          rfl
        intro H2 g2
        exact ⟨_, rfl, rfl, _, rfl, iteT (non e H2 (s1.trans g2))⟩
      | some te =>
        obtain ⟨t, e⟩ := te
        rw [et] at ep
        intro H2 p v g2 np hp ht
        refine ⟨_, rfl, rfl, _, rfl, ?_⟩
        rw [isNon_dec rfl]
        refine iteF ?_
        refine ⟨_, rfl, p, _, rfl, SqT.of hp, rfl, _, _, rfl, _, _, rfl, rfl, ?_⟩
        refine ⟨_, rfl, .inl ⟨rfl, _, SqL.of (g2 _ _ l1)⟩, _, rfl, l, vs, v, rfl, rfl, g2 _ _ l1, ?_, ?_⟩
        · have := tr.1
          exact small1000 (by omega)
        have lp : ∀ {b o}, H b = some o → b ≠ l := fun {b o} h => ne_of_none h hl
        refine ⟨e, done ++ [t], vs ++ [v], _, _, _, rfl, fun b o h => ?_, upd_same, ?_, by simp [hk], ?_⟩
        · rw [upd_ne (lp h)]
          exact g2 _ _ (s1 _ _ h)
        · have h2 := (tr.same g2).snoc ht
          refine ⟨h2.1, fun i' v' t' a b => ?_⟩
          have h3 := h2.2 i' v' t' a b
          exact trAt_upd h3 (g2 _ _ l1)
        · rw [ep]
          show Option.map (fun x => (done ++ x.fst, x.snd)) (match partsAt (treeAt z room) z.cps.toList ([40, 61, 63, 58].drop (k + 1)) e with | none => none | some (ts, e') => some (t :: ts, e')) = _
          cases partsAt (treeAt z room) z.cps.toList ([40, 61, 63, 58].drop (k + 1)) e with
          | none => rfl
          | some x => simp
    · have cc : ¬ z.cps.toList[j]? = some c := fun e => cc (decide_eq_true e)
      rw [if_neg cc] at ep
      have e : choiceAt (treeAt z room) z.cps.toList i = none := by
        unfold choiceAt
        rw [e0, ep]
        rfl
      refine ⟨_, rfl, rfl, _, rfl, iteT (non e H1 s1)⟩
  · rintro σ' H1 ⟨j, done, vs, s4, s5, s6, rfl, s1, l1, tr, hk, ep⟩
    have h4 : done.length = 4 := by
      rw [hk, sign_codes]
      rfl
    have ed : [40, 61, 63, 58].drop ("(=?:" : Str).cps.toList.length = ([] : List Nat) := by
      rw [sign_codes]
      rfl
    rw [ed] at ep
    have e0 : partsAt (treeAt z room) z.cps.toList [] j = some ([], j) := rfl
    rw [e0] at ep
    simp only [Option.map_some, List.append_nil] at ep
    match done, h4 with
    | [a, b, c, d], _ =>
      obtain ⟨u, v, y, x, rfl, ta, tb, tc, td⟩ := tr.four
      unfold choiceAt at q
      rw [ep] at q
      simp only at q
      refine ⟨_, rfl, _, rfl, _, rfl, _, rfl, _, _, rfl, rfl, _, rfl, z, rfl, big, rfl, _, rfl, ?_⟩
      rw [cut1_dec (d := 41) (by decide +kernel)]
      by_cases hc : z.cps.toList[j]? = some 41
      · rw [if_pos hc] at q
        refine iteNS hc ?_
        refine ⟨_, rfl, l, _, rfl, .inl ⟨SqL.of l1, fun p hp => ?_⟩⟩
        refine ⟨_, rfl, _, _, rfl, rfl, by show 2 ≤ sizeLine; decide, fun p2 hp2 => ?_⟩
        have g1 : Same H1 (upd H1 p (.tup [u, v, y, x])) := same_upd hp _
        have g2 : Same H1 (upd (upd H1 p (.tup [u, v, y, x])) p2 (.tup [.ref p, .int ((j : Int) + 1)])) := g1.trans (same_upd hp2 _)
        have n1 : p ≠ p2 := ne_of_none upd_same hp2
        refine q _ p2 (.ref p) (s1.trans g2) (s1.free (g1.free hp2)) upd_same (.ch (by rw [upd_ne n1, upd_same]) (ta.same g2) (tb.same g2) (tc.same g2) (td.same g2))
      · rw [if_neg hc] at q
        rw [decide_eq_false hc]
        refine iteT ?_
        exact q H1 s1
end
end TS
namespace TS
open PySem L2
abbrev sTreeOf : Stmt := top 19
abbrev sNeed : Stmt := top 20
abbrev sTInit : Stmt := (inClass (top 26) 0)
section
variable {P : Program} {w : World} {K : PySem.W.Frag} {mg : Str → Option Value} {base : Heap}
/-- the reader's two defs, together -/
structure RdF (K : PySem.W.Frag) (mg : Str → Option Value) (fw fc ft : Addr) (fdw fdc fdt : FuncData) : Prop where
  FW : Fun K "_word_end" "_word_end" sWord fw fdw
  bw : Binds K fdw ["text", "at"] []
  mw : mg "_word_end" = some (.ref fw)
  FC : Fun K "_choice_at" "_choice_at" sChoice fc fdc
  bc : Binds K fdc ["text", "at", "room"] []
  mc : mg "_choice_at" = some (.ref fc)
  FT : Fun K "_tree_at" "_tree_at" sTree ft fdt
  bt : Binds K fdt ["text", "at", "room"] []
  mt : mg "_tree_at" = some (.ref ft)
theorem rd_tree {fw fc ft : Addr} {fdw fdc fdt : FuncData} (R : RdF K mg fw fc ft fdw fdc fdt) (T : BltT mg) (M : CstT mg) :
    ∀ r, FnOk P w K mg base CX0 (2 * r + 2) ft fdt ["text", "at", "room"] (spTree r) ∧ FnOk P w K mg base CX0 (2 * r + 1) fc fdc ["text", "at", "room"] (spChoice r)
  | 0 => ⟨ok_tree (n := 0) (r := 0) R.FT T M R.FW R.bw R.mw R.FC R.bc R.mc none_choice, none_choice⟩
  | r + 1 => by
    have h := rd_tree R T M r
    have g : FnOk P w K mg base CX0 (2 * (r + 1) + 1) fc fdc ["text", "at", "room"] (spChoice (r + 1)) := ok_choice (n := 2 * r + 2) R.FC T M R.FT R.bt R.mt h.1
    exact ⟨ok_tree (n := 2 * (r + 1)) R.FT T M R.FW R.bw R.mw R.FC R.bc R.mc g, g⟩
/-! _tree_of_text -/
def TxtRes (H : Hp) (o : Option Tr) (Q : VK) : Prop := match o with
  | none => ∀ H', Same H H' → Q .non H'
  | some t => ∀ (H' : Hp) (v : V), Same H H' → TrAt H' v t → Q v H'
def spTreeText : Sp := fun vs H Q _ => ∃ z : Str, vs = [.str z] ∧ z.length ≤ 100000 ∧ TxtRes H (treeOf z) Q
theorem scTreeText : FnScope ["text", "found", "tree", "end"] ["text"] (defScope sTreeText) := ⟨rfl, rfl, rfl, by decide +kernel, rfl, by decide +kernel, by decide +kernel⟩
theorem ok_treeText {f fw fc ft : Addr} {fd fdw fdc fdt : FuncData} (F : Fun K "_tree_of_text" "_tree_of_text" sTreeText f fd) (R : RdF K mg fw fc ft fdw fdc fdt) (T : BltT mg) (M : CstT mg) :
    FnOk P w K mg base CX0 9 f fd ["text"] spTreeText := by
  refine F.ok scTreeText (fun vs H Q E h => ?_) (fun cdv A outer s H vs Q E hr h => ?_)
  · obtain ⟨z, rfl, _⟩ := h
    rfl
  obtain ⟨z, rfl, hz, q⟩ := h
  obtain ⟨td, md⟩ := M.deep
  have GT : FnOk P w K mg base CX0 8 ft fdt ["text", "at", "room"] (spTree 3) := (rd_tree R T M 3).1
  refine ⟨_, pss_cons (ps_set (i := 1) scTreeText.nd rfl (.inl rfl) (pe_call GT hr rfl R.mt R.FT.kp R.bt .nil pass0 (pa_cons (pv 0) (pa_cons pe_int (pa_cons (pe_glob rfl md (show RelV (.int 3) (.int 3 td) from ⟨_, rfl⟩)) pa_nil)))))
    (pss_cons (ps_if (pt_cmpR op_isN (pv 1) pe_non (nomark _)) (pss_one (ps_ret pe_non)) pss_nil)
    (pss_cons (ps_asg (pv 1) (pg_tup (by rfl) (pgs_cons (pg_name (i := 2) scTreeText.nd rfl (.inl rfl)) (pgs_cons (pg_name (i := 3) scTreeText.nd rfl (.inl rfl)) pgs_nil))))
    (pss_one (ps_ret (pe_ifExp (pt_cmpR op_eq (pv 3) (pe_callB call_len_str (by rfl) T.len PySem.boot_len (pa_cons (pv 0) pa_nil)) (nomark _)) (pv 2) pe_non))))), ?_⟩
  have big : z.length ≤ sizeLine := Nat.le_trans hz (by decide)
  refine ⟨_, rfl, z, 0, 3, rfl, hz, by decide, Nat.le_refl _, ?_⟩
  unfold treeOf at q
  cases et : treeAt z 3 0 with
  | none =>
    rw [et] at q
    intro H1 g1
    exact ⟨_, rfl, rfl, _, rfl, iteT (q H1 g1)⟩
  | some te =>
    obtain ⟨t, e⟩ := te
    rw [et] at q
    simp only at q
    intro H1 p v g1 np hp ht
    refine ⟨_, rfl, rfl, _, rfl, ?_⟩
    rw [isNon_dec rfl]
    refine iteF ?_
    refine ⟨_, rfl, p, _, rfl, SqT.of hp, rfl, _, _, rfl, _, _, rfl, rfl, ?_⟩
    refine ⟨_, rfl, _, rfl, z, rfl, big, rfl, _, rfl, ?_⟩
    by_cases c : e = z.length
    · rw [if_pos c] at q
      subst c
      rw [decide_eq_true rfl]
      exact iteT ⟨_, rfl, q H1 v g1 ht⟩
    · rw [if_neg c] at q
      rw [decide_eq_false (by intro h; injection h with h; exact c (by omega))]
      exact iteF (q H1 g1)
/-! _tree_of, _needed_tree -/
/-- what the walk asks of the class Term as the top has made it -/
structure TermK (K : PySem.W.Frag) (mg : Str → Option Value) (C : Addr) : Prop where
  cl : Cls K C
  mgC : mg "Term" = some (.ref C)
  n1 : NoAttr K C "_tree"
  n2 : NoAttr K C "_text"
  n3 : NoAttr K C "_depth"
  n4 : NoAttr K C "_kind"
  n5 : NoAttr K C "_leaves"
  n6 : NoAttr K C "_variables"
  n7 : NoAttr K C "_constants"
  ha : PySem.W.findIn K (.ref C) "__class__" = some (some (.builtin "object.__class__"))
  hn : PySem.W.specialIn K (.builtin "object.__class__") "__get__" = some (some (.builtin "getset_descriptor.__get__"))
  htk : PySem.W.takesIn K (.builtin "object.__class__") = some true
  hm : PySem.W.mroIn K C (.type "object") = some true
  kC : PySem.W.kitOne K (.ref C) (.ref C) = some true
  kStr : PySem.W.kitOne K (.type "str") (.ref C) = some false
  kInt : PySem.W.kitOne K (.type "int") (.ref C) = some false
  kTup : PySem.W.kitOne K (.type "tuple") (.ref C) = some false
  kCS : PySem.W.kitOne K (.ref C) (.type "str") = some false
theorem TermK.ty {C a dx : Addr} {H : Hp} {fs : List (Str × V)} (T : TermK K mg C) (h : H a = some (.ins C dx fs)) : TyX K H (.ref a) (.ref C) := .base (.ins h T.cl T.ha T.hn T.htk T.hm)
theorem scTreeOf : FnScope ["value"] ["value"] (defScope sTreeOf) := ⟨rfl, rfl, rfl, by decide +kernel, rfl, by decide +kernel, by decide +kernel⟩
/-- what is no Term and no text -/
def spTreeOf (K : PySem.W.Frag) (C : Addr) : Sp := fun vs H Q _ => ∃ x : V, vs = [x] ∧
  ((∃ z : Str, x = .str z ∧ z.length ≤ 100000 ∧ TxtRes H (treeOf z) Q) ∨ (∃ a t, x = .ref a ∧ TermAt C H a t ∧ ∀ v, TrAt H v t → Q v H) ∨
   (∃ (tx : Value) (i b : Bool), TyX K H x tx ∧ PySem.W.kitOne K tx (.ref C) = some false ∧ PySem.W.kitOne K tx (.type "str") = some false ∧ PySem.W.kitOne K tx (.type "int") = some i ∧ PySem.W.kitOne K tx (.type "bool") = some b ∧
      (((i && !b) = true ∧ ∃ n : Int, x = .int n ∧ if 0 ≤ n ∧ n ≤ 9 then Q (.int n) H else Q .non H) ∨ ((i && !b) = false ∧ Q .non H))))
theorem ok_treeOf {C f fx fn : Addr} {fd fdx fdn : FuncData} (F : Fun K "_tree_of" "_tree_of" sTreeOf f fd) (T : BltT mg) (TK : TermK K mg C) (mm : ∃ t, mg "MOST_CONSTANT" = some (.int 9 t))
    (FX : Fun K "_tree_of_text" "_tree_of_text" sTreeText fx fdx) (bx : Binds K fdx ["text"] []) (mx : mg "_tree_of_text" = some (.ref fx)) (GX : FnOk P w K mg base CX0 9 fx fdx ["text"] spTreeText)
    (FN : Fun K "is_number" "is_number" sIsNum fn fdn) (bn : Binds K fdn ["value"] []) (mn : mg "is_number" = some (.ref fn)) : FnOk P w K mg base CX0 10 f fd ["value"] (spTreeOf K C) := by
  refine F.ok scTreeOf (fun vs H Q E h => ?_) (fun cdv A outer s H vs Q E hr h => ?_)
  · obtain ⟨x, rfl, _⟩ := h
    rfl
  obtain ⟨x, rfl, h⟩ := h
  obtain ⟨t9, m9⟩ := mm
  have GN : FnOk P w K mg base CX0 1 fn fdn ["value"] (spNum K) := ok_num FN T
  refine ⟨_, pss_cons (ps_if (pt_val (pe_callB call_isi (by rfl) T.isi bIsi (pa_cons (pv 0) (pa_cons (pe_glob rfl TK.mgC (show RelV (.ref C) (.ref C) from rfl)) pa_nil)))) (pss_one (ps_ret (pe_fld (pv 0) rfl))) pss_nil)
    (pss_cons (ps_if (pt_val (pe_callB call_isi (by rfl) T.isi bIsi (pa_cons (pv 0) (pa_cons (pe_bltn (by rfl) T.str (v := .ty "str") (by decide +kernel) rfl) pa_nil)))) (pss_one (ps_ret (pe_call GX hr rfl mx FX.kp bx .nil pass0 (pa_cons (pv 0) pa_nil)))) pss_nil)
    (pss_one (ps_ret (pe_ifExp (PW.pt (pw_and (pt_val (pe_call GN (hr.mono (by decide)) rfl mn FN.kp bn .nil pass0 (pa_cons (pv 0) pa_nil))) (pw_and1 (pt_chain op_le op_le pe_int (pv 0) (pe_glob rfl m9 (show RelV (.int 9) (.int 9 t9) from ⟨_, rfl⟩)))))) (pv 0) pe_non)))), ?_⟩
  rcases h with ⟨z, rfl, hz, q⟩ | ⟨a, t, rfl, ht, q⟩ | ⟨tx, i, b, ty, k1, k2, k3, k4, q⟩
  · refine ⟨_, rfl, _, _, _, _, _, rfl, .own C, .base (.str z), TK.kStr, _, rfl, iteF ?_⟩
    refine ⟨_, rfl, _, _, _, _, _, rfl, .ty "str", .base (.str z), kit_ty (r := true) (by decide +kernel), _, rfl, iteT ?_⟩
    exact ⟨_, rfl, z, rfl, hz, q⟩
  · obtain ⟨_, _, dx, v, l, qq, r, ws, ns, h1, h2, _⟩ := ht
    refine ⟨_, rfl, _, _, _, _, _, rfl, .own C, TK.ty h1, TK.kC, _, rfl, iteT ?_⟩
    exact ⟨_, rfl, a, C, dx, _, _, rfl, h1, TK.cl, TK.n1, tfs_tree _ _ _ _ _ _ _, q v h2⟩
  · refine ⟨_, rfl, _, _, _, _, _, rfl, .own C, ty, k1, _, rfl, iteF ?_⟩
    refine ⟨_, rfl, _, _, _, _, _, rfl, .ty "str", ty, k2, _, rfl, iteF ?_⟩
    refine ⟨_, rfl, x, tx, i, b, rfl, ty, k3, k4, _, rfl, ?_⟩
    rcases q with ⟨e, n, rfl, q⟩ | ⟨e, q⟩
    · rw [e]
      refine iteT ⟨_, rfl, _, _, rfl, rfl, _, rfl, ?_⟩
      by_cases c0 : 0 ≤ n
      · rw [decide_eq_true c0]
        refine iteT ⟨_, _, rfl, rfl, _, rfl, ?_⟩
        by_cases c9 : n ≤ 9
        · rw [if_pos ⟨c0, c9⟩] at q
          rw [decide_eq_true c9]
          exact iteT ⟨_, rfl, q⟩
        · rw [if_neg (fun h => c9 h.2)] at q
          rw [decide_eq_false c9]
          exact iteF q
      · rw [if_neg (fun h => c0 h.1)] at q
        rw [decide_eq_false c0]
        exact iteF ⟨_, rfl, iteF q⟩
    · rw [e]
      exact iteF (iteF q)
theorem scNeed : FnScope ["value", "tree"] ["value"] (defScope sNeed) := ⟨rfl, rfl, rfl, by decide +kernel, rfl, by decide +kernel, by decide +kernel⟩
/-- what makes the term t: its text, its number, or a Term -/
def Makes (C : Addr) (H : Hp) (x : V) (t : Tr) : Prop := x = .str t.text ∨ (∃ n, t = .num n ∧ x = .int n) ∨ ∃ a, x = .ref a ∧ TermAt C H a t
def spNeed (C : Addr) : Sp := fun vs H Q _ => ∃ (x : V) (t : Tr), vs = [x] ∧ Makes C H x t ∧ t.fine ∧ t.deep ≤ 3 ∧ ∀ (H' : Hp) (v : V), Same H H' → TrAt H' v t → Q v H'
theorem ref_ne {v : V} {H : Hp} {t : Tr} (h : TrAt H v t) : decide (v = V.non) = false := decide_eq_false (fun e => by subst e; cases h)
theorem ok_need {C f fx : Addr} {fd fdx : FuncData} (F : Fun K "_needed_tree" "_needed_tree" sNeed f fd) (T : BltT mg) (TK : TermK K mg C)
    (FX : Fun K "_tree_of" "_tree_of" sTreeOf fx fdx) (bx : Binds K fdx ["value"] []) (mx : mg "_tree_of" = some (.ref fx)) (GX : FnOk P w K mg base CX0 10 fx fdx ["value"] (spTreeOf K C)) : FnOk P w K mg base CX0 11 f fd ["value"] (spNeed C) := by
  refine F.ok scNeed (fun vs H Q E h => ?_) (fun cdv A outer s H vs Q E hr h => ?_)
  · obtain ⟨x, t, rfl, _⟩ := h
    rfl
  obtain ⟨x, t, rfl, hm, hf, hd, q⟩ := h
  refine ⟨_, pss_cons (ps_set (i := 1) scNeed.nd rfl (.inl rfl) (pe_call GX hr rfl mx FX.kp bx .nil pass0 (pa_cons (pv 0) pa_nil)))
    (pss_cons (ps_if (pt_cmpR op_isN (pv 1) pe_non (nomark _)) (pss_one ps_never) pss_nil)
    (pss_one (ps_ret (pv 1)))), ?_⟩
  have fin : ∀ (H' : Hp) (v : V), Same H H' → TrAt H' v t → (∃ v_1, some (some v) = some (some v_1) ∧ True) ∧ decide (v = V.non) = false := fun H' v s h => ⟨⟨v, rfl, True.intro⟩, ref_ne h⟩
  refine ⟨_, rfl, x, rfl, ?_⟩
  rcases hm with rfl | ⟨n, rfl, rfl⟩ | ⟨a, rfl, ha⟩
  · refine .inl ⟨t.text, rfl, Nat.le_trans (text315 hf hd) (by decide), ?_⟩
    rw [treeOf_text hf hd]
    intro H' v s h
    refine ⟨_, rfl, rfl, _, rfl, ?_⟩
    rw [ref_ne h]
    exact iteF ⟨_, rfl, q H' v s h⟩
  · refine .inr (.inr ⟨_, true, false, .base (.int n), TK.kInt, kit_ty (by decide +kernel), kit_ty (by decide +kernel), kit_ty (by decide +kernel), .inl ⟨rfl, n, rfl, ?_⟩⟩)
    rw [if_pos ⟨hf.1, hf.2⟩]
    exact ⟨_, rfl, rfl, _, rfl, iteF ⟨_, rfl, q H _ (Same.refl H) (.num n)⟩⟩
  · refine .inr (.inl ⟨a, t, rfl, ha, fun v h => ?_⟩)
    refine ⟨_, rfl, rfl, _, rfl, ?_⟩
    rw [ref_ne h]
    exact iteF ⟨_, rfl, q H v (Same.refl H) h⟩
end
end TS
namespace TS
open PySem L2
section
variable {P : Program} {w : World} {K : PySem.W.Frag} {mg : Str → Option Value} {base : Heap}
/-- a def stands under its name and keeps its promise -/
def Has (P : Program) (w : World) (K : PySem.W.Frag) (mg : Str → Option Value) (base : Heap) (name : Str) (k : Nat) (ps : List Str) (sp : Sp) : Prop :=
  ∃ (f : Addr) (fd : FuncData), mg name = some (.ref f) ∧ PySem.W.keepIn K (.ref f) = true ∧ Binds K fd ps [] ∧ FnOk P w K mg base CX0 k f fd ps sp
theorem Has.mk {name : Str} {st : Stmt} {f : Addr} {fd : FuncData} {k : Nat} {ps : List Str} {sp : Sp} (F : Fun K name name st f fd) (m : mg name = some (.ref f)) (b : Binds K fd ps []) (G : FnOk P w K mg base CX0 k f fd ps sp) : Has P w K mg base name k ps sp := ⟨f, fd, m, F.kp, b, G⟩
/-- a method of the class at C -/
def HasM (P : Program) (w : World) (K : PySem.W.Frag) (mg : Str → Option Value) (base : Heap) (C : Addr) (m : Str) (k : Nat) (ps : List Str) (sp : Sp) : Prop :=
  ∃ (f : Addr) (fd : FuncData), Meth K C m f ∧ Binds K fd ps [] ∧ FnOk P w K mg base CX0 k f fd ps sp
/-- [x for x in list if test], where the test changes nothing -/
theorem lc_filtL {p D : Addr} {xs : List V} (f : V → Bool) {k : Nat} {tt : TT} {σ : St} {H : Hp} {Qd : Hp → Prop} (hp : H p = some (.lst xs)) (h6 : xs.length ≤ 1000) (hD : H D = none)
    (hw : ∀ v, wipe ((wipe σ [k]).set k v) [k] = wipe σ [k]) (hat : ∀ v, ((wipe σ [k]).set k (some v))[k]? = some (some v))
    (ht : ∀ (i : Nat) (x : V) (H1 : Hp) (R : Bool → Hp → Prop), xs[i]? = some x → Same H H1 → R (f x) H1 → tt ((wipe σ [k]).set k (some x)) H1 R)
    (hd : ∀ H1, Same H H1 → H1 D = some (.lst (xs.filter f)) → Qd H1) :
    ∃ W : Nat → Nat → Hp → Prop, (∃ m, W 0 m (upd H D (.lst []))) ∧ ∀ i m H, W i m H →
      ((Itl K p).stop i H ∧ Qd H) ∨ ((Itl K p).go i H ∧ ∃ Nx : Hp → Prop, (∀ H', Nx H' → ∃ m', m' < m ∧ W (i + 1) m' H') ∧ ∀ x H', (Itl K p).yld i H x H' → gName k x (wipe σ [k]) H' fun σ2 H2 => wipe σ2 [k] = wipe σ [k] ∧ tt σ2 H2 fun b H3 =>
        if b = true then tVar k σ2 H3 fun y H4 => ∃ acc, H4 D = some (.lst acc) ∧ acc.length < sizeLine ∧ Nx (upd H4 D (.lst (acc ++ [y]))) else Nx H3) := by
  have hpD : p ≠ D := ne_of_none hp hD
  refine lc_list (K := K) (a := p) (xs := xs) (fun i H1 => Same H H1 ∧ H1 D = some (.lst ((xs.take i).filter f))) ⟨same_upd hD _, upd_same⟩ (fun i H1 _ z => SqL.of (z.1 _ _ hp)) (fun i x H1 hx z => ?_) (fun H1 z => ?_)
  · obtain ⟨s1, d1⟩ := z
    have hi : i < xs.length := (List.getElem?_eq_some_iff.mp hx).1
    have tk : xs.take (i + 1) = xs.take i ++ [x] := by
      rw [List.take_succ, hx]
      rfl
    refine ⟨hw _, ht i x H1 _ hx s1 ?_⟩
    cases e : f x with
    | true =>
      refine iteT ⟨x, hat x, _, d1, ?_, fun b o q => ?_, ?_⟩
      · have h1 : ((xs.take i).filter f).length ≤ (xs.take i).length := List.length_filter_le _ _
        rw [List.length_take] at h1
        exact small1000 (by omega)
      · rw [upd_ne (ne_of_none q hD)]
        exact s1 _ _ q
      · rw [upd_same, tk, List.filter_append]
        simp [e]
    | false =>
      refine iteF ⟨s1, ?_⟩
      rw [tk, List.filter_append]
      simp [e, d1]
  · obtain ⟨s1, d1⟩ := z
    rw [List.take_length] at d1
    exact hd H1 s1 d1
theorem once_le {κ : Type} [DecidableEq κ] (l : List κ) : (once l).length ≤ l.length := once_len l
theorem filt_words (t : Tr) : t.words.length ≤ t.leaves.length := by
  have h := congrArg List.length (leaves_words t)
  rw [List.length_map] at h
  rw [← h]
  exact List.length_filter_le _ _
theorem filt_nums (t : Tr) : t.nums.length ≤ t.leaves.length := by
  have h := congrArg List.length (leaves_nums t)
  rw [List.length_map] at h
  rw [← h]
  exact List.length_filter_le _ _
/-! Term.__init__ -/
abbrev nmTInit : List Str := ["self", "value", "tree", "leaf"]
theorem scTInit : FnScope nmTInit ["self", "value"] (defScope sTInit) := ⟨rfl, rfl, rfl, by decide +kernel, rfl, by decide +kernel, by decide +kernel⟩
def spTInit (C : Addr) : Sp := fun vs H Q _ => ∃ (p dx : Addr) (x : V) (t : Tr), vs = [.ref p, x] ∧ H p = some (.ins C dx []) ∧ Makes C H x t ∧ t.fine ∧ t.deep ≤ 3 ∧ ∀ H', SameX p H H' → (∀ Ds, Lists Ds H → ∀ G, SameOff Ds H' G → TermAt C G p t) → Q .non H'
theorem sx_upd {p : Addr} {H H1 : Hp} {o : HO} (s : SameX p H H1) : SameX p H (upd H1 p o) := fun b u h n => by
  rw [upd_ne n]
  exact s b u h n
theorem sx_self {p : Addr} {H : Hp} {o : HO} : SameX p H (upd H p o) := sx_upd (SameX.refl p H)
theorem ins_tup {H : Hp} {p C dx : Addr} {fs : List (Str × V)} (h : H p = some (.ins C dx fs)) : ∀ xs, H p ≠ some (.tup xs) := fun xs e => by
  rw [h] at e
  cases e
theorem few {f : Str} {v : V} {fs : List (Str × V)} {n : Nat} (h : fs.length ≤ n) : (putF f v fs).length ≤ n + 1 := Nat.le_trans (length_putF f v fs) (Nat.succ_le_succ h)
theorem nxt {H A H2 : Hp} {p C dx : Addr} {z : List (Str × V)} {v : V} {t : Tr} (z' : List (Str × V)) (x1 : SameX p H A) (t2 : TrAt A v t) (p2 : A p = some (.ins C dx z)) (g : Same A H2) :
    SameX p H (upd H2 p (.ins C dx z')) ∧ TrAt (upd H2 p (.ins C dx z')) v t ∧ (upd H2 p (.ins C dx z')) p = some (.ins C dx z') :=
  ⟨sx_upd (x1.trans (Same.x g)), (t2.same g).sameX sx_self (ins_tup (g _ _ p2)), upd_same⟩
theorem lst_upd {H : Hp} {l p : Addr} {o u : HO} (h : H l = some o) (n : l ≠ p) : upd H p u l = some o := by
  rw [upd_ne n]
  exact h
theorem isS_kit {H : Hp} {t : Tr} {v : V} (h : v ∈ t.leaves) : ∃ u, TyX K H v u ∧ PySem.W.kitOne K u (.type "str") = some (isS v) := by
  rcases leaves_kind t v h with ⟨x, rfl⟩ | ⟨n, rfl⟩
  · exact ⟨_, .base (.str x), kit_ty (r := true) (by decide +kernel)⟩
  · exact ⟨_, .base (.int n), kit_ty (r := false) (by decide +kernel)⟩
theorem ok_tinit {C f : Addr} {fd : FuncData} (F : Fun K "__init__" "Term.__init__" sTInit f fd) (T : BltT mg) (TK : TermK K mg C)
    (D1 : Has P w K mg base "_needed_tree" 11 ["value"] (spNeed C)) (D2 : Has P w K mg base "_text_of" 3 ["tree"] (spText 3)) (D3 : Has P w K mg base "_depth_of" 3 ["tree"] (spDepth 3)) (D4 : Has P w K mg base "_kind_of" 1 ["tree"] spKind)
    (D5 : Has P w K mg base "_leaves_of" 3 ["tree"] (spLeaves 3)) (D6 : Has P w K mg base "ascending" 1 ["values"] spAsc) : FnOk P w K mg base CX0 12 f fd ["self", "value"] (spTInit C) := by
  obtain ⟨f1, fd1, m1, k1, b1, G1⟩ := D1
  obtain ⟨f2, fd2, m2, k2, b2, G2⟩ := D2
  obtain ⟨f3, fd3, m3, k3, b3, G3⟩ := D3
  obtain ⟨f4, fd4, m4, k4, b4, G4⟩ := D4
  obtain ⟨f5, fd5, m5, k5, b5, G5⟩ := D5
  obtain ⟨f6, fd6, m6, k6, b6, G6⟩ := D6
  refine F.ok scTInit (fun vs H Q E h => ?_) (fun cdv A outer s H vs Q E hr h => ?_)
  · obtain ⟨p, dx, x, t, rfl, _⟩ := h
    rfl
  obtain ⟨p, dx, x, t, rfl, hp, hm, hf, hd, q⟩ := h
  have r3 : Room 3 _ := hr.mono (by decide)
  have r1 : Room 1 _ := hr.mono (by decide)
  refine ⟨_, pss_cons (ps_set (i := 2) scTInit.nd rfl (.inl rfl) (pe_call G1 hr rfl m1 k1 b1 .nil pass0 (pa_cons (pv 1) pa_nil)))
    (pss_cons (ps_fld (pv 0) (pv 2) rfl)
    (pss_cons (ps_fld (pv 0) (pe_call G2 r3 rfl m2 k2 b2 .nil pass0 (pa_cons (pv 2) pa_nil)) rfl)
    (pss_cons (ps_fld (pv 0) (pe_call G3 r3 rfl m3 k3 b3 .nil pass0 (pa_cons (pv 2) pa_nil)) rfl)
    (pss_cons (ps_fld (pv 0) (pe_call G4 r1 rfl m4 k4 b4 .nil pass0 (pa_cons (pv 2) pa_nil)) rfl)
    (pss_cons (ps_fld (pv 0) (pe_call G5 r3 rfl m5 k5 b5 .nil pass0 (pa_cons (pv 2) pa_nil)) rfl)
    (pss_cons (ps_fld (pv 0) (pe_call G6 r1 rfl m6 k6 b6 .nil pass0 (pa_cons
      (pe_lc (own := [("leaf", 3)]) (g := gName 3) (tt := tTest (tCB (rIsi K) (tCons (tVar 3) (tCons (tC (.ty "str")) tNil)))) (by rfl) scTInit.nd (pi_list (pe_fld (pv 0) rfl)) (blkOk_by (own := [("leaf", 3)]) (N := nmTInit) (sc := defScope sTInit) (by decide +kernel)) (fun _ _ _ _ _ => pg_name (i := 3) scTInit.nd rfl (Or.inl rfl))
        (fun _ _ _ _ _ => pts_one (pt_val (pe_callB call_isi (by rfl) T.isi bIsi (pa_cons (pv 3) (pa_cons (pe_bltn (by rfl) T.str (v := .ty "str") (by decide +kernel) rfl) pa_nil))))) (fun _ _ _ _ _ => pv 3)) pa_nil)) rfl)
    (pss_one (ps_fld (pv 0) (pe_call G6 r1 rfl m6 k6 b6 .nil pass0 (pa_cons
      (pe_lc (own := [("leaf", 3)]) (g := gName 3) (tt := tNot (tTest (tCB (rIsi K) (tCons (tVar 3) (tCons (tC (.ty "str")) tNil))))) (by rfl) scTInit.nd (pi_list (pe_fld (pv 0) rfl)) (blkOk_by (own := [("leaf", 3)]) (N := nmTInit) (sc := defScope sTInit) (by decide +kernel)) (fun _ _ _ _ _ => pg_name (i := 3) scTInit.nd rfl (Or.inl rfl))
        (fun _ _ _ _ _ => pts_one (pt_not (pt_val (pe_callB call_isi (by rfl) T.isi bIsi (pa_cons (pv 3) (pa_cons (pe_bltn (by rfl) T.str (v := .ty "str") (by decide +kernel) rfl) pa_nil)))))) (fun _ _ _ _ _ => pv 3)) pa_nil)) rfl)))))))), ?_⟩
  have l16 := leaves16 hd
  have lw := filt_words t
  have ln := filt_nums t
  have t315 := text315 hf hd
  refine ⟨_, rfl, x, t, rfl, hm, hf, hd, fun H1 v s1 t1 => ?_⟩
  have p1 := s1 _ _ hp
  -- self._tree
  refine ⟨_, rfl, _, rfl, p, C, dx, [], rfl, p1, TK.cl, TK.n1, (by show 0 < 1000; decide), ?_⟩
  generalize ez1 : putF "_tree" v [] = z1
  obtain ⟨x1, t2, p2⟩ := nxt z1 (SameX.refl p H |>.trans (Same.x s1)) t1 p1 (Same.refl H1)
  have c1 : z1.length ≤ 1 := by
    rw [← ez1]
    exact few (Nat.le_refl 0)
  generalize upd H1 p (.ins C dx z1) = A1 at x1 t2 p2
  -- self._text
  refine ⟨_, rfl, v, t, rfl, t2, hf.small, hd, by omega, fun H2 g2 => ?_⟩
  refine ⟨_, rfl, p, C, dx, z1, rfl, g2 _ _ p2, TK.cl, TK.n2, by omega, ?_⟩
  generalize ez2 : putF "_text" (.str t.text) z1 = z2
  obtain ⟨x2, t3, p3⟩ := nxt z2 x1 t2 p2 g2
  have c2 : z2.length ≤ 2 := by
    rw [← ez2]
    exact few c1
  generalize upd H2 p (.ins C dx z2) = A2 at x2 t3 p3
  -- self._depth
  refine ⟨_, rfl, v, t, rfl, t3, hd, fun H3 g3 => ?_⟩
  refine ⟨_, rfl, p, C, dx, z2, rfl, g3 _ _ p3, TK.cl, TK.n3, by omega, ?_⟩
  generalize ez3 : putF "_depth" (.int t.deep) z2 = z3
  obtain ⟨x3, t4, p4⟩ := nxt z3 x2 t3 p3 g3
  have c3 : z3.length ≤ 3 := by
    rw [← ez3]
    exact few c2
  generalize upd H3 p (.ins C dx z3) = A3 at x3 t4 p4
  -- self._kind
  refine ⟨_, rfl, v, t, rfl, t4, ?_⟩
  refine ⟨_, rfl, p, C, dx, z3, rfl, p4, TK.cl, TK.n4, by omega, ?_⟩
  generalize ez4 : putF "_kind" (.str t.kind) z3 = z4
  obtain ⟨x4, t5, p5⟩ := nxt z4 x3 t4 p4 (Same.refl A3)
  have c4 : z4.length ≤ 4 := by
    rw [← ez4]
    exact few c3
  generalize upd A3 p (.ins C dx z4) = A4 at x4 t5 p5
  -- self._leaves
  refine ⟨_, rfl, v, t, rfl, t5, hd, by omega, fun l H5 g5 nl hl => ?_⟩
  have lp : l ≠ p := (ne_of_none p5 nl).symm
  refine ⟨_, rfl, p, C, dx, z4, rfl, g5 _ _ p5, TK.cl, TK.n5, by omega, ?_⟩
  generalize ez5 : putF "_leaves" (.ref l) z4 = z5
  obtain ⟨x5, t6, p6⟩ := nxt z5 x4 t5 p5 g5
  have l6 := lst_upd (u := .ins C dx z5) hl lp
  have c5 : z5.length ≤ 5 := by
    rw [← ez5]
    exact few c4
  have k5 : z5.lookup ("_leaves" : Str) = some (.ref l) := by
    rw [← ez5, lookup_putF, if_pos rfl]
  generalize upd H5 p (.ins C dx z5) = A5 at x5 t6 p6 l6
  -- self._variables
  refine ⟨_, rfl, p, C, dx, _, _, rfl, p6, TK.cl, TK.n5, k5, l, rfl, ⟨_, SqL.of l6⟩, fun D hD => lc_filtL isS l6 (by omega) hD (fun _ => rfl) (fun _ => rfl) (fun i y H1 R hy sy r => ?_) (fun H6 g6 d6 => ?_)⟩
  · obtain ⟨u, ty, ky⟩ := isS_kit (K := K) (H := H1) (List.mem_of_getElem? hy)
    exact ⟨_, rfl, _, _, _, _, _, rfl, .ty "str", ty, ky, _, rfl, r⟩
  rw [leaves_words] at d6
  refine ⟨D, _, rfl, d6, by rw [List.length_map]; omega, .inl ⟨t.words, rfl, fun qv H7 ws g7 nq pw sw hq => ?_⟩⟩
  have g67 := g6.trans g7
  have qp : qv ≠ p := (ne_of_none (g6 _ _ p6) nq).symm
  refine ⟨_, rfl, p, C, dx, z5, rfl, g67 _ _ p6, TK.cl, TK.n6, by omega, ?_⟩
  generalize ez6 : putF "_variables" (.ref qv) z5 = z6
  obtain ⟨x6, t7, p7⟩ := nxt z6 x5 t6 p6 g67
  have l7 := lst_upd (u := .ins C dx z6) (g67 _ _ l6) lp
  have q7 := lst_upd (u := .ins C dx z6) hq qp
  have c6 : z6.length ≤ 6 := by
    rw [← ez6]
    exact few c5
  have k6 : z6.lookup ("_leaves" : Str) = some (.ref l) := by
    rw [← ez6, lookup_putF, if_neg (by decide +kernel)]
    exact k5
  generalize upd H7 p (.ins C dx z6) = A6 at x6 t7 p7 l7 q7
  -- self._constants
  refine ⟨_, rfl, p, C, dx, _, _, rfl, p7, TK.cl, TK.n5, k6, l, rfl, ⟨_, SqL.of l7⟩, fun D hD => lc_filtL (fun y => !isS y) l7 (by omega) hD (fun _ => rfl) (fun _ => rfl) (fun i y H1 R hy sy r => ?_) (fun H8 g8 d8 => ?_)⟩
  · obtain ⟨u, ty, ky⟩ := isS_kit (K := K) (H := H1) (List.mem_of_getElem? hy)
    exact ⟨_, rfl, _, _, _, _, _, rfl, .ty "str", ty, ky, _, rfl, r⟩
  rw [leaves_nums] at d8
  refine ⟨D, _, rfl, d8, by rw [List.length_map]; omega, .inr ⟨t.nums, rfl, fun rv H9 ns g9 nr pn sn hr9 => ?_⟩⟩
  have g89 := g8.trans g9
  have rp : rv ≠ p := (ne_of_none (g8 _ _ p7) nr).symm
  refine ⟨_, rfl, p, C, dx, z6, rfl, g89 _ _ p7, TK.cl, TK.n7, by omega, ?_⟩
  generalize ez7 : putF "_constants" (.ref rv) z6 = z7
  obtain ⟨x7, t8, p8⟩ := nxt z7 x6 t7 p7 g89
  have l8 := lst_upd (u := .ins C dx z7) (g89 _ _ l7) lp
  have q8 := lst_upd (u := .ins C dx z7) (g89 _ _ q7) qp
  have r8 := lst_upd (u := .ins C dx z7) hr9 rp
  have ez : z7 = tfs v t.text t.deep t.kind l qv rv := by
    rw [← ez7, ← ez6, ← ez5, ← ez4, ← ez3, ← ez2, ← ez1]
    rfl
  generalize upd H9 p (.ins C dx z7) = A7 at x7 t8 p8 l8 q8 r8
  rw [ez] at p8
  refine q A7 x7 fun Ds hDs G sG => ?_
  have out : ∀ {b : Addr} {o : HO}, A7 b = some o → (∀ xs, o ≠ .lst xs) → b ∉ Ds := fun {b o} hb no m => by
    obtain ⟨xs, e⟩ := hDs b m
    have nb : b ≠ p := ne_of e hp (by intro z; cases z)
    have := x7 b _ e nb
    rw [hb] at this
    exact no xs (Option.some.inj this)
  have lD : l ∉ Ds := fun m => by
    obtain ⟨xs, e⟩ := hDs l m
    have := x4 l _ e (ne_of e hp (by intro z; cases z))
    rw [nl] at this
    cases this
  have qD : qv ∉ Ds := fun m => by
    obtain ⟨xs, e⟩ := hDs qv m
    have := g6 _ _ (x5 qv _ e (ne_of e hp (by intro z; cases z)))
    rw [nq] at this
    cases this
  have rD : rv ∉ Ds := fun m => by
    obtain ⟨xs, e⟩ := hDs rv m
    have := g8 _ _ (x6 rv _ e (ne_of e hp (by intro z; cases z)))
    rw [nr] at this
    cases this
  have hDs7 : Lists Ds A7 := fun D m => by
    obtain ⟨xs, e⟩ := hDs D m
    exact ⟨xs, x7 D _ e (ne_of e hp (by intro z; cases z))⟩
  exact ⟨hf, hd, dx, v, l, qv, rv, ws, ns, sG _ _ p8 (out p8 (by intro xs z; cases z)), t8.off sG hDs7, sG _ _ l8 lD, sG _ _ q8 qD, sG _ _ r8 rD, pw, sw, pn, sn⟩
end
end TS
namespace TS
open PySem PySem.Spec PyProof.Rows PySem.W L2
/-! own __eq__, __contains__, __len__, __str__ reached by ==, !=, in, len, str -/
section
variable {prog : Program} {w : World} {A : Around} {E : Value → Shared → Prop} {s : Shared} {K : Frag} {x C f : Addr} {b tb : Value} {ox : Obj} {od : Option Obj}
/-- a rich comparison whose left side answers -/
theorem rc_one {op : CmpOp} {Q : Value → Shared → Prop} (hu : A.units < cLine) (X : K.In s.heap) (I : InstAt s.heap x ox C od) (hb : Looks (model prog w) s.heap (typeOf b) tb) (hn : notFirst K C tb = true)
    (one : wpAny (model prog w) A (tryCompare (.ref x) (cmpInfo op).2.1 b) (fun r s' => ∃ v, r = some v ∧ Q v s') E s) : wpAny (model prog w) A (richCompare op (.ref x) b) Q E s := by
  unfold richCompare
  simp only [oneThing_ref]
  refine wpAny_holding (wpAny_bind (wpAny_cRoomFor hu ?_))
  refine wpAny_bind (I.type.here (wpAny_bind (hb.here ?_)))
  split
  · rename_i q
    have e : subIn K tb (.ref C) = some false := by
      rcases Bool.or_eq_true_iff.mp hn with e | e
      · rw [beq_iff_eq.mp e] at q
        simp at q
      · exact beq_iff_eq.mp e
    refine wpAny_bind ((looks_subIn X e).here ?_)
    simp only [Bool.false_eq_true, if_false]
    refine wpAny_bind (wpAny_mono one (fun r s' z => ?_) fun _ _ e => e)
    obtain ⟨v, rfl, hq⟩ := z
    exact wpAny_pure hq
  · refine wpAny_bind (wpAny_pure ?_)
    simp only [Bool.false_eq_true, if_false]
    refine wpAny_bind (wpAny_mono one (fun r s' z => ?_) fun _ _ e => e)
    obtain ⟨v, rfl, hq⟩ := z
    exact wpAny_pure hq
/-- the answer is a truth -/
def TruthBack (Q : Bool → Shared → Prop) (v : Value) (s' : Shared) : Prop := ∃ k, v = .bool k ∧ Q k s'
theorem try_eq {Q : Bool → Shared → Prop} (X : K.In s.heap) (I : InstAt s.heap x ox C od) (hs : findIn K (.ref C) "__eq__" = some (some (.ref f))) (hf : isFn K (.ref f) = true)
    (h : wpAny (model prog w) A (call (.ref f) [.ref x, b]) (TruthBack Q) E s) : wpAny (model prog w) A (tryCompare (.ref x) "__eq__" b) (fun r s' => ∃ v, r = some v ∧ TruthBack Q v s') E s := by
  unfold tryCompare
  refine wpAny_bind (ifBound_K X I hs hf (wpAny_mono h (fun v s' hv => ?_) fun _ _ e => e))
  obtain ⟨k, rfl, hq⟩ := hv
  exact wpAny_pure ⟨_, rfl, k, rfl, hq⟩
theorem bind_one : ∀ self, bindSpecial (.builtin "object.__ne__") self = pure (.builtin "object.__ne__", [self]) := F.cmp_object.ne.bind
theorem ifBound_ne {args : List Value} {Q : Option Value → Shared → Prop} {M : Model} (X : K.In s.heap) (I : InstAt s.heap x ox C od) (hs : findIn K (.ref C) "__ne__" = some (some (.builtin "object.__ne__")))
    (h : wpAny M A (call (.builtin "object.__ne__") (.ref x :: args)) (fun v => Q (some v)) E s) : wpAny M A (callSpecialIfBound? (.ref x) "__ne__" args) Q E s := by
  simp only [callSpecialIfBound?, bindSpecialIfBound?]
  refine wpAny_holding (wpAny_bind (wpAny_bind (wpAny_bind (I.type.here ((looks_findIn X hs).here ?_)))))
  refine wpAny_bind (wpAny_askSetting (wpAny_ite ?_))
  have fin : wpAny M A (call (.builtin "object.__ne__") ([.ref x] ++ args) >>= fun v => pure (some v)) Q E s := wpAny_bind (wpAny_mono h (fun v s' h' => wpAny_pure h') fun _ _ h' => h')
  split
  · exact wpAny_bind (wpAny_of_eq (bind_one _) (wpAny_pure (by exact fin)))
  · exact wpAny_tryCatch (wpAny_bind (wpAny_of_eq (bind_one _) (wpAny_pure (by exact fin))))
theorem ne_entry {Q : Fin → Shared → Prop} (hu : A.units < cLine) (X : K.In s.heap) (I : InstAt s.heap x ox C od) (hs : findIn K (.ref C) "__eq__" = some (some (.ref f))) (hf : isFn K (.ref f) = true)
    (h : wpAny (model prog w) A (call (.ref f) [.ref x, b]) (TruthBack fun k s' => Q (.done (.ret (.bool (!k)))) s') E s) :
    wpAny (model prog w) A (Builtin.«object.__ne__» ⟨[.ref x, b], []⟩) Q E s := by
  unfold Builtin.«object.__ne__»
  repeat (first
    | with_reducible refine wpAny_cRoomFor hu ?_
    | (refine wpAny_bind (m := callSpecialIfBound? (.ref x) (Str.ofString "__eq__") [b])
        (ifBound_K X I hs hf (wpAny_mono h (fun r s' hr => by
          obtain ⟨k, rfl, hq⟩ := hr
          repeat (first | exact hq | exact wpAny_pure hq | exact wpAny_truthy_bool hq | (refine wpAny_bind (m := truthy (.bool _)) (wpAny_truthy_bool ?_)) | wp_step)) fun _ _ e => e)))
    | wp_step)
theorem try_ne {Q : Bool → Shared → Prop} (hu : A.in1.units < cLine) (X : K.In s.heap) (I : InstAt s.heap x ox C od) (hn : findIn K (.ref C) "__ne__" = some (some (.builtin "object.__ne__"))) (hm : mroIn K C (.type "object") = some true)
    (hs : findIn K (.ref C) "__eq__" = some (some (.ref f))) (hf : isFn K (.ref f) = true)
    (h : wpAny (model prog w) A.in1 (call (.ref f) [.ref x, b]) (TruthBack fun k s' => Q (!k) s') E s) : wpAny (model prog w) A (tryCompare (.ref x) "__ne__" b) (fun r s' => ∃ v, r = some v ∧ TruthBack Q v s') E s := by
  unfold tryCompare
  refine wpAny_bind (ifBound_ne X I hn (wpAny_call (codeAny_call_builtin F.cmp_object.ne.plain F.cmpEntry_ne
    (check_slot F.cmpKind_ne F.cmpSplit_ne (I.type.andThen (looks_mroIn X hm)) (F.cmpArgs_ne _ _) (ne_entry hu X I hs hf (wpAny_mono h (fun v s' hv => ?_) fun _ _ e => e))))))
  obtain ⟨k, rfl, hq⟩ := hv
  exact ⟨k, rfl, wpAny_pure ⟨_, rfl, _, rfl, hq⟩⟩
theorem in_own {Q : Bool → Shared → Prop} (X : K.In s.heap) (I : InstAt s.heap x ox C od) (hs : findIn K (.ref C) "__contains__" = some (some (.ref f))) (hf : isFn K (.ref f) = true)
    (h : wpAny (model prog w) A (call (.ref f) [.ref x, b]) (TruthBack Q) E s) : wpAny (model prog w) A (contains (.ref x) b) Q E s := by
  unfold contains
  refine wpAny_holding ?_
  simp only [stdlibNamesSay?]
  refine wpAny_bind (wpAny_bind (I.type.here ((looks_findIn X hs).here ?_)))
  simp only [callSpecialUnlessNone?]
  have e : (some (Value.ref f) == some Value.none) = false := rfl
  rw [e]
  simp only [Bool.false_eq_true, if_false]
  refine wpAny_bind (wpAny_bind (wpAny_bind (I.type.here ((looks_findIn X hs).here (wpAny_holding (wpAny_bind ((bind_fn X _ (beq_iff_eq.mp hf)).here ?_)))))))
  have e2 : (Value.ref f == Value.none) = false := rfl
  simp only [e2, Bool.false_eq_true, if_false]
  refine wpAny_bind (wpAny_mono h (fun v s' hv => ?_) fun _ _ e => e)
  obtain ⟨k, rfl, hq⟩ := hv
  exact wpAny_pure (wpAny_truthy_bool hq)
end
section
variable {X : Cx} {CX : CXT} {n : Nat} {C f : Addr} {fd : FuncData} {ps : List Str} {sp : Sp} {E : XK}
/-- an own method called by the machine -/
theorem own_call {pins : List (Addr × Obj)} {σ : L2.St} {H : Hp} {s : Shared} {A : Around} {xs : List V} {us : List Value} {Q : VK} (I : Inv X pins σ H s) (hA : A.frames = X.A.frames) (hr : Room n A)
    (G : FnOk X.prog X.w X.K X.mg X.base CX n f fd ps sp) (hb : Binds X.K fd ps []) (hx : Passes CX X E) (rv : Vals xs us) (h : sp xs H Q E) :
    wpAny (model X.prog X.w) A (call (.ref f) us) (EP X pins σ Q) X.xe s := by
  have e0 : Env0 X.prog X.w X.K X.mg X.base A X.stack s H := by
    have e := I.env0
    exact ⟨by rw [hA]; exact e.frames, e.mod, e.bs, e.bsz, e.funs, e.frf, e.hok, e.bare⟩
  have hl := G.len _ _ _ _ h
  refine wpAny_call (codeAny_mono (G.run A X.stack s H ⟨us, []⟩ us xs Q E hr e0 (by
    have := hb s us I.kIn (by rw [List.append_nil, ← rv.length]; exact hl)
    simpa using this) rv h) fun r s' hq => ?_)
  cases r with
  | error e => exact hx pins σ H s e s' I hq
  | ok fl =>
    cases fl with
    | ret u => exact I.after hq
    | next => exact False.elim hq
    | brk => exact False.elim hq
    | cont => exact False.elim hq
/-- an answer that is a truth -/
def Tr1 (Q : Bool → Hp → Prop) : VK := fun v H => ∃ k, v = .bl k ∧ Q k H
def rOwn2 (K : Frag) (C : Addr) (sp : Sp) (E : XK) (g : Bool → Bool) : R2 := fun x y H Q => ∃ a dx fs t, x = .ref a ∧ H a = some (.ins C dx fs) ∧ TyX K H y t ∧ notFirst K C t = true ∧ sp [.ref a, y] H (Tr1 fun k H' => Q (.bl (g k)) H') E
theorem op_eqOwn (G : FnOk X.prog X.w X.K X.mg X.base CX n f fd ps sp) (hs : findIn X.K (.ref C) "__eq__" = some (some (.ref f))) (hf : isFn X.K (.ref f) = true) (hb : Binds X.K fd ps []) (hx : Passes CX X E) (hr : Room n X.A) :
    OpR X (compareOp .Eq) (rOwn2 X.K C sp E id) := by
  intro pins s σ H x y v u Q I rx ry h
  obtain ⟨a, dx, fs, t, rfl, ha, ty, nf, q⟩ := h
  cases rx
  obtain ⟨mA, J, _⟩ := ins_get I.hok ha
  obtain ⟨od, J, _⟩ := J.look
  obtain ⟨P, Z, p, _⟩ := kit_of I ry ty
  show wpAny (model X.prog X.w) X.A (richCompare .Eq (.ref a) u) (EP X pins σ Q) X.xe s
  refine wpAny_mono (rc_one (op := .Eq) (Q := TruthBack fun k s' => EP X pins σ Q (.bool k) s') hr.units0 I.kIn J (Z.ty _ _ I.kIn p) nf (try_eq I.kIn J hs hf (wpAny_mono (own_call I rfl hr G hb hx (.cons (show L2.RelV (.ref a) (Value.ref a) from rfl) (.cons ry .nil)) q) (fun r s' z => ?_) fun _ _ e => e))) (fun r s' z => ?_) fun _ _ e => e
  · obtain ⟨v, H', I', rv, k, rfl, q'⟩ := z
    cases rv
    exact ⟨k, rfl, .bl k, H', I', rfl, q'⟩
  · obtain ⟨k, rfl, q'⟩ := z
    exact q'
theorem op_neOwn (G : FnOk X.prog X.w X.K X.mg X.base CX n f fd ps sp) (hne : findIn X.K (.ref C) "__ne__" = some (some (.builtin "object.__ne__"))) (hm : mroIn X.K C (.type "object") = some true) (hs : findIn X.K (.ref C) "__eq__" = some (some (.ref f))) (hf : isFn X.K (.ref f) = true) (hb : Binds X.K fd ps []) (hx : Passes CX X E) (hr : Room (n + 1) X.A) :
    OpR X (compareOp .NotEq) (rOwn2 X.K C sp E not) := by
  intro pins s σ H x y v u Q I rx ry h
  obtain ⟨a, dx, fs, t, rfl, ha, ty, nf, q⟩ := h
  cases rx
  obtain ⟨mA, J, _⟩ := ins_get I.hok ha
  obtain ⟨od, J, _⟩ := J.look
  obtain ⟨P, Z, p, _⟩ := kit_of I ry ty
  show wpAny (model X.prog X.w) X.A (richCompare .NotEq (.ref a) u) (EP X pins σ Q) X.xe s
  refine wpAny_mono (rc_one (op := .NotEq) (Q := TruthBack fun k s' => EP X pins σ Q (.bool k) s') hr.units0 I.kIn J (Z.ty _ _ I.kIn p) nf (try_ne hr.in1.units0 I.kIn J hne hm hs hf (wpAny_mono (own_call (A := X.A.in1) I rfl hr.in1 G hb hx (.cons (show L2.RelV (.ref a) (Value.ref a) from rfl) (.cons ry .nil)) q) (fun r s' z => ?_) fun _ _ e => e))) (fun r s' z => ?_) fun _ _ e => e
  · obtain ⟨v, H', I', rv, k, rfl, q'⟩ := z
    cases rv
    exact ⟨k, rfl, .bl (!k), H', I', rfl, q'⟩
  · obtain ⟨k, rfl, q'⟩ := z
    exact q'
def rOwnIn (C : Addr) (sp : Sp) (E : XK) : R2 := fun x y H Q => ∃ a dx fs, y = .ref a ∧ H a = some (.ins C dx fs) ∧ sp [.ref a, x] H (Tr1 fun k H' => Q (.bl k) H') E
theorem op_inOwn (G : FnOk X.prog X.w X.K X.mg X.base CX n f fd ps sp) (hs : findIn X.K (.ref C) "__contains__" = some (some (.ref f))) (hf : isFn X.K (.ref f) = true) (hb : Binds X.K fd ps []) (hx : Passes CX X E) (hr : Room n X.A) :
    OpR X (compareOp .In) (rOwnIn C sp E) := by
  intro pins s σ H x y v u Q I rx ry h
  obtain ⟨a, dx, fs, rfl, ha, q⟩ := h
  cases ry
  obtain ⟨mA, J, _⟩ := ins_get I.hok ha
  obtain ⟨od, J, _⟩ := J.look
  unfold compareOp
  refine wpAny_bind (in_own I.kIn J hs hf (wpAny_mono (own_call I rfl hr G hb hx (.cons (show L2.RelV (.ref a) (Value.ref a) from rfl) (.cons rx .nil)) q) (fun r s' z => ?_) fun _ _ e => e))
  obtain ⟨v, H', I', rv, k, rfl, q'⟩ := z
  cases rv
  exact ⟨k, rfl, wpAny_pure ⟨.bl k, H', I', rfl, q'⟩⟩
def rOwn1 (C : Addr) (sp : Sp) (E : XK) (R : V → Prop) : List V → Hp → VK → Prop := fun xs H Q => ∃ a dx fs, xs = [.ref a] ∧ H a = some (.ins C dx fs) ∧ sp [.ref a] H (fun v H' => R v ∧ Q v H') E
theorem cr_lenOwn (G : FnOk X.prog X.w X.K X.mg X.base CX n f fd ps sp) (hs : findIn X.K (.ref C) "__len__" = some (some (.ref f))) (hf : isFn X.K (.ref f) = true) (hb : Binds X.K fd ps []) (hx : Passes CX X E) (hr : Room (n + 1) X.A) :
    CallR X (.builtin "len") (rOwn1 C sp E fun v => ∃ m : Nat, v = .int m ∧ m < 1000000) := by
  intro pins s σ H xs us Q I r h
  obtain ⟨a, dx, fs, rfl, ha, q⟩ := h
  obtain ⟨u, rfl, rx⟩ := vals1 r
  cases rx
  obtain ⟨mA, J, _⟩ := ins_get I.hok ha
  obtain ⟨od, J, _⟩ := J.look
  obtain ⟨m, hF⟩ := I.fr
  refine len_K hF I.ok.mod.kin J hs hf (wpAny_mono (own_call (A := X.A.in1) I rfl hr.in1 G hb hx (.cons (show L2.RelV (.ref a) (Value.ref a) from rfl) .nil) q) (fun r s' z => ?_) fun _ _ e => e)
  obtain ⟨v, H', I', rv, ⟨k, rfl, hk⟩, q'⟩ := z
  obtain ⟨t, rfl⟩ := rv
  exact ⟨⟨by omega, by omega⟩, .int k, H', I'.tok _, ⟨_, rfl⟩, q'⟩
theorem cr_strOwn (G : FnOk X.prog X.w X.K X.mg X.base CX n f fd ps sp) (hs : findIn X.K (.ref C) "__str__" = some (some (.ref f))) (hf : isFn X.K (.ref f) = true) (hb : Binds X.K fd ps []) (hx : Passes CX X E) (hr : Room (n + 2) X.A) :
    CallR X (.type "str") (rOwn1 C sp E fun v => ∃ y, v = .str y) := by
  intro pins s σ H xs us Q I r h
  obtain ⟨a, dx, fs, rfl, ha, q⟩ := h
  obtain ⟨u, rfl, rx⟩ := vals1 r
  cases rx
  obtain ⟨mA, J, _⟩ := ins_get I.hok ha
  obtain ⟨od, J, _⟩ := J.look
  refine kso_call hr.in1.in1.units0 I.kIn J hs hf (wpAny_mono (own_call (A := X.A.in1.in1) I rfl hr.in1.in1 G hb hx (.cons (show L2.RelV (.ref a) (Value.ref a) from rfl) .nil) q) (fun r s' z => ?_) fun _ _ e => e)
  obtain ⟨v, H', I', rv, ⟨y, rfl⟩, q'⟩ := z
  obtain ⟨t, rfl⟩ := rv
  exact ⟨.str y, H', I', ⟨_, rfl⟩, q'⟩
end
end TS
namespace TS
open PySem L2
abbrev sTStr : Stmt := (inClass (top 26) 2)
abbrev sTEq : Stmt := (inClass (top 26) 3)
abbrev sTLen : Stmt := (inClass (top 26) 4)
abbrev sTIn : Stmt := (inClass (top 26) 5)
abbrev sTDepth : Stmt := (inClass (top 26) 7)
abbrev sTVars : Stmt := (inClass (top 26) 9)
abbrev sTCons : Stmt := (inClass (top 26) 10)
abbrev sTParts : Stmt := (inClass (top 26) 11)
section
variable {P : Program} {w : World} {K : PySem.W.Frag} {mg : Str → Option Value} {base : Heap}
/-! ### comprehensions whose element is made by a call; what is told of each item stays -/
/-- value by value, each with its item's promise -/
def Each {α : Type} (R : Hp → V → α → Prop) (H : Hp) (vs : List V) (ts : List α) : Prop := vs.length = ts.length ∧ ∀ (i : Nat) v t, vs[i]? = some v → ts[i]? = some t → R H v t
theorem Each.nil {α : Type} {R : Hp → V → α → Prop} {H : Hp} : Each R H [] [] := ⟨rfl, fun i v t h _ => by simp at h⟩
theorem Each.imp {α : Type} {R R' : Hp → V → α → Prop} {H H' : Hp} {vs : List V} {ts : List α} (h : Each R H vs ts) (s : ∀ v t, R H v t → R' H' v t) : Each R' H' vs ts := ⟨h.1, fun i v t a b => s _ _ (h.2 i v t a b)⟩
theorem Each.snoc {α : Type} {R : Hp → V → α → Prop} {H : Hp} {vs : List V} {ts : List α} {v : V} {t : α} (h : Each R H vs ts) (g : R H v t) : Each R H (vs ++ [v]) (ts ++ [t]) := by
  refine ⟨by simp [h.1], fun i a b ha hb => ?_⟩
  by_cases hi : i < vs.length
  · rw [List.getElem?_append_left hi] at ha
    rw [List.getElem?_append_left (by rw [← h.1]; exact hi)] at hb
    exact h.2 i a b ha hb
  · rw [List.getElem?_append_right (by omega)] at ha
    rw [List.getElem?_append_right (by rw [← h.1]; omega), ← h.1] at hb
    cases hq : i - vs.length with
    | zero =>
      rw [hq] at ha hb
      simp at ha hb
      subst ha hb
      exact g
    | succ k =>
      rw [hq] at ha
      simp at ha
theorem Each.take {α : Type} {R : Hp → V → α → Prop} {H : Hp} {vs : List V} {ts : List α} (h : Each R H vs ts) (n : Nat) : Each R H (vs.take n) (ts.take n) := by
  refine ⟨by simp [h.1], fun i v t a b => ?_⟩
  rw [List.getElem?_take] at a b
  split at a
  · rename_i hi
    rw [if_pos hi] at b
    exact h.2 i v t a b
  · cases a
/-- [e for x in tuple], e a call that leaves all as it is -/
theorem lc_eachT {α : Type} (R : Hp → V → α → Prop) {p D : Addr} {xs : List V} {ts : List α} {k : Nat} {te : TE} {σ : St} {H : Hp} {Qd : Hp → Prop} (hp : H p = some (.tup xs)) (hl : ts.length = xs.length) (h6 : xs.length ≤ 1000) (hD : H D = none)
    (hw : ∀ v, wipe ((wipe σ [k]).set k v) [k] = wipe σ [k])
    (step : ∀ (i : Nat) (x : V) (t : α) (H1 : Hp) (G : VK), xs[i]? = some x → ts[i]? = some t → Same H H1 → Lists [D] H1 → (∀ (y : V) H2, Same H1 H2 → (∀ H3, SameOff [D] H2 H3 → R H3 y t) → G y H2) → te ((wipe σ [k]).set k (some x)) H1 G)
    (hd : ∀ H1 ys, Same H H1 → H1 D = some (.lst ys) → Each R H1 ys ts → Qd H1) :
    ∃ W : Nat → Nat → Hp → Prop, (∃ m, W 0 m (upd H D (.lst []))) ∧ ∀ i m H, W i m H →
      ((Itt K p).stop i H ∧ Qd H) ∨ ((Itt K p).go i H ∧ ∃ Nx : Hp → Prop, (∀ H', Nx H' → ∃ m', m' < m ∧ W (i + 1) m' H') ∧ ∀ x H', (Itt K p).yld i H x H' → gName k x (wipe σ [k]) H' fun σ2 H2 => wipe σ2 [k] = wipe σ [k] ∧ tYes σ2 H2 fun b H3 =>
        if b = true then te σ2 H3 fun y H4 => ∃ acc, H4 D = some (.lst acc) ∧ acc.length < sizeLine ∧ Nx (upd H4 D (.lst (acc ++ [y]))) else Nx H3) := by
  refine lc_tup (K := K) (a := p) (xs := xs) (fun i H1 => Same H H1 ∧ ∃ ys, H1 D = some (.lst ys) ∧ Each (fun G v t => ∀ H3, SameOff [D] G H3 → R H3 v t) H1 ys (ts.take i)) ⟨same_upd hD _, [], upd_same, Each.nil⟩ (fun i H1 _ z => SqT.of (z.1 _ _ hp)) (fun i x H1 hx z => ?_) (fun H1 z => ?_)
  · obtain ⟨s1, ys, d1, e1⟩ := z
    have hi : i < xs.length := (List.getElem?_eq_some_iff.mp hx).1
    have ht : ts[i]? = some ts[i] := List.getElem?_eq_getElem (by omega)
    refine ⟨hw _, ?_⟩
    unfold tYes
    dsimp only
    rw [if_pos rfl]
    refine step i x ts[i] H1 _ hx ht s1 (fun b m => by rw [List.mem_singleton.mp m]; exact ⟨ys, d1⟩) fun y H2 s2 r2 => ?_
    refine ⟨ys, s2 _ _ d1, ?_, ?_⟩
    · have := e1.1
      rw [List.length_take] at this
      exact small1000 (by omega)
    · refine ⟨fun b o q => ?_, ys ++ [y], upd_same, ?_⟩
      · rw [upd_ne (ne_of_none q hD)]
        exact s2 _ _ (s1 _ _ q)
      · have e2 : Each (fun G v t => ∀ H3, SameOff [D] G H3 → R H3 v t) (upd H2 D (.lst (ys ++ [y]))) (ys ++ [y]) (ts.take i ++ [ts[i]]) :=
          ((e1.imp fun v t h H3 s3 => h H3 ((Same.off s2).trans s3)).snoc (R := fun G v t => ∀ H3, SameOff [D] G H3 → R H3 v t) (H := H2) r2).imp fun v t h H3 s3 => h H3 ((off_upd (SameOff.refl _ _) (by simp)).trans s3)
        rw [List.take_succ, ht]
        exact e2
  · obtain ⟨s1, ys, d1, e1⟩ := z
    rw [List.take_of_length_le (by omega)] at e1
    exact hd H1 ys s1 d1 (e1.imp fun v t h => h H1 (SameOff.refl _ _))
/-! ### a Term made -/
/-- the class Term, made by its __init__ -/
def HasTerm (P : Program) (w : World) (K : PySem.W.Frag) (mg : Str → Option Value) (base : Heap) (C : Addr) : Prop :=
  ∃ (f : Addr) (fd : FuncData), Mk K C f ∧ Binds K fd ["self", "value"] [] ∧ FnOk P w K mg base CX0 12 f fd ["self", "value"] (spTInit C)
theorem Makes.same {C : Addr} {H H' : Hp} {x : V} {t : Tr} (h : Makes C H x t) (s : Same H H') : Makes C H' x t := by
  rcases h with h | h | ⟨a, e, h⟩
  · exact .inl h
  · exact .inr (.inl h)
  · exact .inr (.inr ⟨a, e, h.same s⟩)
theorem make_read {C : Addr} {H : Hp} {x : V} {t : Tr} {Q : VK} {E : XK} (hm : Makes C H x t) (hf : t.fine) (hd : t.deep ≤ 3) (q : ∀ H' a, Same H H' → H a = none → (∀ Ds, Lists Ds H → ∀ G, SameOff Ds H' G → TermAt C G a t) → Q (.ref a) H') :
    ∀ a dx, H a = none → H dx = none → dx ≠ a → spTInit C (.ref a :: ([x] ++ [])) (upd (upd H dx (.own a)) a (.ins C dx [])) (fun v H2 => v = .non ∧ Q (.ref a) H2) E := by
  intro a dx na nd ne
  have s0 : Same H (upd (upd H dx (.own a)) a (.ins C dx [])) := fun b o e => by
    rw [upd_ne (ne_of_none e na), upd_ne (ne_of_none e nd)]
    exact e
  refine ⟨a, dx, x, t, rfl, upd_same, hm.same s0, hf, hd, fun H' sx ht => ⟨rfl, q H' a (fun b o e => sx b o (s0 b o e) (ne_of_none e na)) na fun Ds hDs => ht Ds fun D m => let ⟨xs, e⟩ := hDs D m; ⟨xs, s0 _ _ e⟩⟩⟩
/-! ### methods -/
def spTStr (C : Addr) : Sp := fun vs H Q _ => ∃ (p : Addr) (t : Tr), vs = [.ref p] ∧ TermAt C H p t ∧ Q (.str t.text) H
theorem scSelf (s : Stmt) (h : (defScope s) = defScope s) : True := True.intro
theorem scTStr : FnScope ["self"] ["self"] (defScope sTStr) := ⟨rfl, rfl, rfl, by decide +kernel, rfl, by decide +kernel, by decide +kernel⟩
theorem ok_tstr {C f : Addr} {fd : FuncData} (F : Fun K "__str__" "Term.__str__" sTStr f fd) (T : BltT mg) (TK : TermK K mg C) : FnOk P w K mg base CX0 1 f fd ["self"] (spTStr C) := by
  refine F.ok scTStr (fun vs H Q E h => ?_) (fun cdv A outer s H vs Q E hr h => ?_)
  · obtain ⟨p, t, rfl, _⟩ := h
    rfl
  obtain ⟨p, t, rfl, ht, q⟩ := h
  refine ⟨_, pss_one (ps_ret (pe_callTy SkE.call_str_str (by rfl) T.str (by decide +kernel) (pa_cons (pe_fld (pv 0) rfl) pa_nil))), ?_⟩
  obtain ⟨_, _, dx, v, l, qq, r, ws, ns, h1, _⟩ := ht
  exact ⟨_, rfl, p, C, dx, _, _, rfl, h1, TK.cl, TK.n2, tfs_text _ _ _ _ _ _ _, _, rfl, q⟩
def spTEq (K : PySem.W.Frag) (C : Addr) : Sp := fun vs H Q _ => ∃ (p : Addr) (t : Tr) (y : V), vs = [.ref p, y] ∧ TermAt C H p t ∧
  ((∃ a u, y = .ref a ∧ TermAt C H a u ∧ Q (.bl (decide (V.str t.text = V.str u.text))) H) ∨ (∃ ty, TyX K H y ty ∧ PySem.W.kitOne K ty (.ref C) = some false ∧ Q (.bl false) H))
theorem scTEq : FnScope ["self", "other"] ["self", "other"] (defScope sTEq) := ⟨rfl, rfl, rfl, by decide +kernel, rfl, by decide +kernel, by decide +kernel⟩
theorem ok_teq {C f : Addr} {fd : FuncData} (F : Fun K "__eq__" "Term.__eq__" sTEq f fd) (T : BltT mg) (TK : TermK K mg C) : FnOk P w K mg base CX0 1 f fd ["self", "other"] (spTEq K C) := by
  refine F.ok scTEq (fun vs H Q E h => ?_) (fun cdv A outer s H vs Q E hr h => ?_)
  · obtain ⟨p, t, y, rfl, _⟩ := h
    rfl
  obtain ⟨p, t, y, rfl, ht, q⟩ := h
  refine ⟨_, pss_one (ps_ret (pe_and (pe_callB call_isi (by rfl) T.isi bIsi (pa_cons (pv 1) (pa_cons (pe_glob rfl TK.mgC (show RelV (.ref C) (.ref C) from rfl)) pa_nil)))
    (pe_one (pe_cmpR op_eq (pe_fld (pv 0) rfl) (pe_fld (pv 1) rfl) (nomark _))))), ?_⟩
  obtain ⟨_, _, dx, v, l, qq, r, ws, ns, h1, _⟩ := ht
  rcases q with ⟨a, u, rfl, ha, q⟩ | ⟨ty, hty, kt, q⟩
  · obtain ⟨_, _, dx2, v2, l2, q2, r2, ws2, ns2, h2, _⟩ := ha
    refine ⟨_, rfl, _, _, _, _, _, rfl, .own C, TK.ty h2, TK.kC, _, rfl, iteT ?_⟩
    exact ⟨_, rfl, p, C, dx, _, _, rfl, h1, TK.cl, TK.n2, tfs_text _ _ _ _ _ _ _, _, rfl, a, C, dx2, _, _, rfl, h2, TK.cl, TK.n2, tfs_text _ _ _ _ _ _ _, rfl, q⟩
  · exact ⟨_, rfl, _, _, _, _, _, rfl, .own C, hty, kt, _, rfl, iteF q⟩
def spTLen (C : Addr) : Sp := fun vs H Q _ => ∃ (p : Addr) (t : Tr), vs = [.ref p] ∧ TermAt C H p t ∧ Q (.int t.leaves.length) H
theorem scTLen : FnScope ["self"] ["self"] (defScope sTLen) := ⟨rfl, rfl, rfl, by decide +kernel, rfl, by decide +kernel, by decide +kernel⟩
theorem ok_tlen {C f : Addr} {fd : FuncData} (F : Fun K "__len__" "Term.__len__" sTLen f fd) (T : BltT mg) (TK : TermK K mg C) : FnOk P w K mg base CX0 1 f fd ["self"] (spTLen C) := by
  refine F.ok scTLen (fun vs H Q E h => ?_) (fun cdv A outer s H vs Q E hr h => ?_)
  · obtain ⟨p, t, rfl, _⟩ := h
    rfl
  obtain ⟨p, t, rfl, ht, q⟩ := h
  refine ⟨_, pss_one (ps_ret (pe_callB call_len_seq (by rfl) T.len PySem.boot_len (pa_cons (pe_fld (pv 0) rfl) pa_nil))), ?_⟩
  obtain ⟨_, _, dx, v, l, qq, r, ws, ns, h1, _, h3, _⟩ := ht
  exact ⟨_, rfl, p, C, dx, _, _, rfl, h1, TK.cl, TK.n5, tfs_leaves _ _ _ _ _ _ _, l, _, rfl, .inl (SqL.of h3), q⟩
theorem inV_str (x : Str) (ws : List Str) : inV (.str x) (ws.map V.str) = decide (x ∈ ws) := by
  unfold inV
  rw [List.any_map]
  induction ws with
  | nil => rfl
  | cons y ws ih =>
    rw [List.any_cons, ih]
    rw [Bool.eq_iff_iff]
    simp only [eqV, Function.comp_apply, Bool.or_eq_true, beq_iff_eq, decide_eq_true_eq, List.mem_cons]
    constructor
    · rintro (h | h)
      · exact .inl h.symm
      · exact .inr h
    · rintro (h | h)
      · exact .inl h.symm
      · exact .inr h
theorem inV_int (x : Int) (ns : List Int) : inV (.int x) (ns.map V.int) = decide (x ∈ ns) := by
  unfold inV
  rw [List.any_map]
  induction ns with
  | nil => rfl
  | cons y ws ih =>
    rw [List.any_cons, ih]
    rw [Bool.eq_iff_iff]
    simp only [eqV, Function.comp_apply, Bool.or_eq_true, beq_iff_eq, decide_eq_true_eq, List.mem_cons]
    constructor
    · rintro (h | h)
      · exact .inl h.symm
      · exact .inr h
    · rintro (h | h)
      · exact .inl h.symm
      · exact .inr h
theorem flat_str (ws : List Str) : (ws.map V.str).all flatV = true := by simp [flatV]
theorem flat_int (ns : List Int) : (ns.map V.int).all flatV = true := by simp [flatV]
def spTIn (K : PySem.W.Frag) (C : Addr) : Sp := fun vs H Q _ => ∃ (p : Addr) (t : Tr) (y : V), vs = [.ref p, y] ∧ TermAt C H p t ∧
  ((∃ x, y = .str x ∧ Q (.bl (decide (x ∈ t.words))) H) ∨
   (∃ (ty : Value) (i b : Bool), TyX K H y ty ∧ PySem.W.kitOne K ty (.type "str") = some false ∧ PySem.W.kitOne K ty (.type "int") = some i ∧ PySem.W.kitOne K ty (.type "bool") = some b ∧
      (((i && !b) = true ∧ ∃ n : Int, y = .int n ∧ Q (.bl (decide (n ∈ t.nums))) H) ∨ ((i && !b) = false ∧ Q (.bl false) H))))
theorem scTIn : FnScope ["self", "value"] ["self", "value"] (defScope sTIn) := ⟨rfl, rfl, rfl, by decide +kernel, rfl, by decide +kernel, by decide +kernel⟩
theorem perm_in {κ : Type} [DecidableEq κ] {ws ss : List κ} (h : ws.Perm (once ss)) (x : κ) : decide (x ∈ ws) = decide (x ∈ ss) :=
  decide_eq_decide.mpr (by rw [h.mem_iff, once_mem])
theorem ok_tin {C f : Addr} {fd : FuncData} (F : Fun K "__contains__" "Term.__contains__" sTIn f fd) (T : BltT mg) (TK : TermK K mg C) (D1 : Has P w K mg base "is_number" 1 ["value"] (spNum K)) : FnOk P w K mg base CX0 2 f fd ["self", "value"] (spTIn K C) := by
  obtain ⟨f1, fd1, m1, k1, b1, G1⟩ := D1
  refine F.ok scTIn (fun vs H Q E h => ?_) (fun cdv A outer s H vs Q E hr h => ?_)
  · obtain ⟨p, t, y, rfl, _⟩ := h
    rfl
  obtain ⟨p, t, y, rfl, ht, q⟩ := h
  refine ⟨_, pss_cons (ps_if (pt_val (pe_callB call_isi (by rfl) T.isi bIsi (pa_cons (pv 1) (pa_cons (pe_bltn (by rfl) T.str (v := .ty "str") (by decide +kernel) rfl) pa_nil)))) (pss_one (ps_ret (pe_cmpR op_in_seq (pv 1) (pe_fld (pv 0) rfl) (by rfl)))) pss_nil)
    (pss_one (ps_ret (pe_and (pe_call G1 hr rfl m1 k1 b1 .nil pass0 (pa_cons (pv 1) pa_nil)) (pe_one (pe_cmpR op_in_seq (pv 1) (pe_fld (pv 0) rfl) (by rfl)))))), ?_⟩
  obtain ⟨_, _, dx, v, l, qq, r, ws, ns, h1, _, h3, h4, h5, h6, h7, h8, h9⟩ := ht
  rcases q with ⟨x, rfl, q⟩ | ⟨ty, i, b, hty, ks, ki, kb, q⟩
  · refine ⟨_, rfl, _, _, _, _, _, rfl, .ty "str", .base (.str x), kit_ty (r := true) (by decide +kernel), _, rfl, iteT ?_⟩
    refine ⟨_, rfl, _, rfl, p, C, dx, _, _, rfl, h1, TK.cl, TK.n6, tfs_vars _ _ _ _ _ _ _, qq, _, rfl, .inl (SqL.of h4), rfl, flat_str ws, ?_⟩
    have e : inV (.str x) (ws.map V.str) = decide (x ∈ t.words) := (inV_str x ws).trans (perm_in h6 x)
    rw [if_neg Bool.false_ne_true, e]
    exact q
  · refine ⟨_, rfl, _, _, _, _, _, rfl, .ty "str", hty, ks, _, rfl, iteF ?_⟩
    refine ⟨_, rfl, y, ty, i, b, rfl, hty, ki, kb, _, rfl, ?_⟩
    rcases q with ⟨e, n, rfl, q⟩ | ⟨e, q⟩
    · rw [e]
      refine iteT ⟨_, rfl, _, rfl, p, C, dx, _, _, rfl, h1, TK.cl, TK.n7, tfs_cons _ _ _ _ _ _ _, r, _, rfl, .inl (SqL.of h5), rfl, flat_int ns, ?_⟩
      have e : inV (.int n) (ns.map V.int) = decide (n ∈ t.nums) := (inV_int n ns).trans (perm_in h8 n)
      rw [if_neg Bool.false_ne_true, e]
      exact q
    · rw [e]
      exact iteF q
def spTDepth (C : Addr) : Sp := fun vs H Q _ => ∃ (p : Addr) (t : Tr), vs = [.ref p] ∧ TermAt C H p t ∧ Q (.int t.deep) H
theorem scTDepth : FnScope ["self"] ["self"] (defScope sTDepth) := ⟨rfl, rfl, rfl, by decide +kernel, rfl, by decide +kernel, by decide +kernel⟩
theorem ok_tdepth {C f : Addr} {fd : FuncData} (F : Fun K "depth" "Term.depth" sTDepth f fd) (TK : TermK K mg C) : FnOk P w K mg base CX0 1 f fd ["self"] (spTDepth C) := by
  refine F.ok scTDepth (fun vs H Q E h => ?_) (fun cdv A outer s H vs Q E hr h => ?_)
  · obtain ⟨p, t, rfl, _⟩ := h
    rfl
  obtain ⟨p, t, rfl, ht, q⟩ := h
  refine ⟨_, pss_one (ps_ret (pe_fld (pv 0) rfl)), ?_⟩
  obtain ⟨_, _, dx, v, l, qq, r, ws, ns, h1, _⟩ := ht
  exact ⟨_, rfl, p, C, dx, _, _, rfl, h1, TK.cl, TK.n3, tfs_depth _ _ _ _ _ _ _, q⟩
def spTKind (C : Addr) : Sp := fun vs H Q _ => ∃ (p : Addr) (t : Tr), vs = [.ref p] ∧ TermAt C H p t ∧ Q (.str t.kind) H
def spTVars (C : Addr) : Sp := fun vs H Q _ => ∃ (p : Addr) (t : Tr), vs = [.ref p] ∧ TermAt C H p t ∧ ∀ (l : Addr) (ws : List Str), H l = none → ws.Perm (once t.words) → PyProof.Rows.sortedS ws = true → Q (.ref l) (upd H l (.lst (ws.map V.str)))
theorem scTVars : FnScope ["self"] ["self"] (defScope sTVars) := ⟨rfl, rfl, rfl, by decide +kernel, rfl, by decide +kernel, by decide +kernel⟩
theorem ok_tvars {C f : Addr} {fd : FuncData} (F : Fun K "variables" "Term.variables" sTVars f fd) (ml : mg "list" = none) (TK : TermK K mg C) : FnOk P w K mg base CX0 1 f fd ["self"] (spTVars C) := by
  refine F.ok scTVars (fun vs H Q E h => ?_) (fun cdv A outer s H vs Q E hr h => ?_)
  · obtain ⟨p, t, rfl, _⟩ := h
    rfl
  obtain ⟨p, t, rfl, ht, q⟩ := h
  refine ⟨_, pss_one (ps_ret (pe_callTy call_list_of (by rfl) ml (by decide +kernel) (pa_cons (pe_fld (pv 0) rfl) pa_nil))), ?_⟩
  obtain ⟨_, _, dx, v, l, qq, r, ws, ns, h1, _, h3, h4, h5, h6, h7, _⟩ := ht
  exact ⟨_, rfl, p, C, dx, _, _, rfl, h1, TK.cl, TK.n6, tfs_vars _ _ _ _ _ _ _, qq, _, rfl, .inl (SqL.of h4), fun l hl => q l ws hl h6 h7⟩
def spTCons (C : Addr) : Sp := fun vs H Q _ => ∃ (p : Addr) (t : Tr), vs = [.ref p] ∧ TermAt C H p t ∧ ∀ (l : Addr) (ns : List Int), H l = none → ns.Perm (once t.nums) → ns.Pairwise (· ≤ ·) → Q (.ref l) (upd H l (.lst (ns.map V.int)))
theorem scTCons : FnScope ["self"] ["self"] (defScope sTCons) := ⟨rfl, rfl, rfl, by decide +kernel, rfl, by decide +kernel, by decide +kernel⟩
theorem ok_tcons {C f : Addr} {fd : FuncData} (F : Fun K "constants" "Term.constants" sTCons f fd) (ml : mg "list" = none) (TK : TermK K mg C) : FnOk P w K mg base CX0 1 f fd ["self"] (spTCons C) := by
  refine F.ok scTCons (fun vs H Q E h => ?_) (fun cdv A outer s H vs Q E hr h => ?_)
  · obtain ⟨p, t, rfl, _⟩ := h
    rfl
  obtain ⟨p, t, rfl, ht, q⟩ := h
  refine ⟨_, pss_one (ps_ret (pe_callTy call_list_of (by rfl) ml (by decide +kernel) (pa_cons (pe_fld (pv 0) rfl) pa_nil))), ?_⟩
  obtain ⟨_, _, dx, v, l, qq, r, ws, ns, h1, _, h3, h4, h5, h6, h7, h8, h9⟩ := ht
  exact ⟨_, rfl, p, C, dx, _, _, rfl, h1, TK.cl, TK.n7, tfs_cons _ _ _ _ _ _ _, r, _, rfl, .inl (SqL.of h5), fun l hl => q l ns hl h8 h9⟩
/-! parts -/
def Tr.parts : Tr → List Tr
  | .ch a b c d => [a, b, c, d]
  | _ => []
/-- a value that is a Term of the tree -/
def IsTerm (C : Addr) (H : Hp) (v : V) (t : Tr) : Prop := ∃ a, v = .ref a ∧ TermAt C H a t
theorem IsTerm.same {C : Addr} {H H' : Hp} {v : V} {t : Tr} (h : IsTerm C H v t) (s : Same H H') : IsTerm C H' v t := let ⟨a, e, g⟩ := h; ⟨a, e, g.same s⟩
def spTParts (C : Addr) : Sp := fun vs H Q _ => ∃ (p : Addr) (t : Tr), vs = [.ref p] ∧ TermAt C H p t ∧ ∀ (l : Addr) (ys : List V) (H' : Hp), Same H H' → H l = none → H' l = some (.lst ys) → Each (IsTerm C) H' ys t.parts → Q (.ref l) H'
abbrev nmTParts : List Str := ["self", "part"]
theorem scTParts : FnScope nmTParts ["self"] (defScope sTParts) := ⟨rfl, rfl, rfl, by decide +kernel, rfl, by decide +kernel, by decide +kernel⟩
theorem ok_tparts {C f : Addr} {fd : FuncData} (F : Fun K "parts" "Term.parts" sTParts f fd) (T : BltT mg) (TK : TermK K mg C) (D2 : Has P w K mg base "_text_of" 3 ["tree"] (spText 3)) (DT : HasTerm P w K mg base C) : FnOk P w K mg base CX0 14 f fd ["self"] (spTParts C) := by
  obtain ⟨f2, fd2, m2, k2, b2, G2⟩ := D2
  obtain ⟨f3, fd3, M3, b3, G3⟩ := DT
  refine F.ok scTParts (fun vs H Q E h => ?_) (fun cdv A outer s H vs Q E hr h => ?_)
  · obtain ⟨p, t, rfl, _⟩ := h
    rfl
  obtain ⟨p, t, rfl, ht, q⟩ := h
  have r3 : Room 3 _ := hr.mono (by decide)
  refine ⟨_, pss_cons (ps_if (pt_not (pt_val (pe_callB call_isi (by rfl) T.isi bIsi (pa_cons (pe_fld (pv 0) rfl) (pa_cons (pe_bltn (by rfl) T.tup (v := .ty "tuple") (by decide +kernel) rfl) pa_nil)))))
      (pss_one (ps_ret (pe_lst pa_nil))) pss_nil)
    (pss_one (ps_ret (pe_lc (own := [("part", 1)]) (g := gName 1) (tt := tYes) (by rfl) scTParts.nd (pi_tup (pe_fld (pv 0) rfl)) (blkOk_by (own := [("part", 1)]) (N := nmTParts) (sc := defScope sTParts) (by decide +kernel)) (fun _ _ _ _ _ => pg_name (i := 1) scTParts.nd rfl (Or.inl rfl)) (fun _ _ _ _ _ => pts_nil)
        (fun _ _ _ _ _ => pe_make M3 G3 hr rfl TK.mgC b3 .nil pass0 (pa_cons (pe_call G2 r3 rfl m2 k2 b2 .nil pass0 (pa_cons (pv 1) pa_nil)) pa_nil))))), ?_⟩
  obtain ⟨hf, hd, dx, v, l, qq, r, ws, ns, h1, h2, _⟩ := ht
  obtain ⟨u, c, hty, hk, hc⟩ := isT (K := K) h2
  refine ⟨_, rfl, p, C, dx, _, _, rfl, h1, TK.cl, TK.n1, tfs_tree _ _ _ _ _ _ _, _, _, _, _, _, rfl, .ty "tuple", hty, hk, _, rfl, ?_⟩
  rcases hc with ⟨rfl, a, b', c, d, rfl⟩ | ⟨rfl, hc⟩
  · refine iteF ?_
    cases h2 with
    | ch hp ha hb hc hdd =>
      rename_i p2 y0 y1 y2 y3
      obtain ⟨fa, fb, fc, fdd⟩ := hf
      have dd : a.deep ≤ 2 ∧ b'.deep ≤ 2 ∧ c.deep ≤ 2 ∧ d.deep ≤ 2 := by
        simp only [Tr.deep] at hd
        omega
      refine ⟨_, rfl, p, C, dx, _, _, rfl, h1, TK.cl, TK.n1, tfs_tree _ _ _ _ _ _ _, p2, rfl, ⟨_, SqT.of hp⟩, fun D hD => lc_eachT (K := K) (IsTerm C) (ts := [a, b', c, d]) hp rfl (by show 4 ≤ 1000; decide) hD (fun _ => rfl) (fun i x t H1 G hx ht s1 hLs hG => ?_) (fun H1 ys s1 d1 e1 => q D ys H1 s1 hD d1 e1)⟩
      · have mk : ∀ (x' : V) (t' : Tr), TrAt H x' t' → t'.fine → t'.deep ≤ 2 → x = x' → t = t' → (∃ v, ((wipe (L2.start nmTParts [V.ref p]) [1]).set 1 (some x))[1]? = some (some v) ∧ spText 3 ([v] ++ []) H1 (fun y H2 => ∀ a dx, H2 a = none → H2 dx = none → dx ≠ a → spTInit C (.ref a :: ([y] ++ [])) (upd (upd H2 dx (.own a)) a (.ins C dx [])) (fun v H3 => v = .non ∧ G (.ref a) H3) E0) E0) := by
          intro x' t' hx' hf' hd' e1 e2
          subst e1 e2
          refine ⟨_, rfl, x, t, rfl, hx'.same s1, hf'.small, by omega, Nat.le_trans (text315 hf' (by omega)) (by decide), fun H2 s2 => ?_⟩
          exact make_read (.inl rfl) hf' (by omega) fun H3 a s3 na h3 => hG _ H3 (s2.trans s3) fun H4 s4 => ⟨a, rfl, h3 [D] (fun b m => let ⟨ys, e⟩ := hLs b m; ⟨ys, s2 _ _ e⟩) H4 s4⟩
        rcases i with _ | _ | _ | _ | i
        · cases hx
          cases ht
          exact mk _ _ ha fa dd.1 rfl rfl
        · cases hx
          cases ht
          exact mk _ _ hb fb dd.2.1 rfl rfl
        · cases hx
          cases ht
          exact mk _ _ hc fc dd.2.2.1 rfl rfl
        · cases hx
          cases ht
          exact mk _ _ hdd fdd dd.2.2.2 rfl rfl
        · simp at hx
  · refine iteT ?_
    refine ⟨by show 0 ≤ sizeLine; decide, fun l hl => q l [] _ (same_upd hl _) hl upd_same ?_⟩
    rcases hc with ⟨n, rfl, rfl⟩ | ⟨x, rfl, rfl⟩ <;> exact Each.nil
end
end TS
namespace TS
open PySem L2
abbrev sPool : Stmt := top 28
abbrev sTake : Stmt := top 29
/-- a pool's list: what is left of the cell, and the mixed number -/
def PoolAt (H : Hp) (p : Addr) : Prop := ∃ x y : Int, H p = some (.lst [.int x, .int y]) ∧ 0 ≤ x ∧ 0 ≤ y ∧ y < 2147483647
def spPool (K : PySem.W.Frag) : Sp := fun vs H Q _ => ∃ (a : Addr) (ns : List Int) (k : Int), vs = [.ref a, .int k] ∧ SqL K H a (ns.map V.int) ∧ 0 ≤ k ∧ k ≤ 1000 ∧
  ∀ (p : Addr) (x y : Int), H p = none → 0 ≤ x → 0 ≤ y → y < 2147483647 → Q (.ref p) (upd H p (.lst [.int x, .int y]))
def spTake : Sp := fun vs H Q _ => ∃ (p : Addr) (x y b : Int), vs = [.ref p, .int b] ∧ H p = some (.lst [.int x, .int y]) ∧ 0 ≤ x ∧ 0 ≤ y ∧ y < 2147483647 ∧ 0 < b ∧ b ≤ 1000000000 ∧
  ∀ (r x' y' : Int), 0 ≤ r → r < b → 0 ≤ x' → 0 ≤ y' → y' < 2147483647 → Q (.int r) (upd H p (.lst [.int x', .int y']))
section
variable {P : Program} {w : World} {K : PySem.W.Frag} {mg : Str → Option Value} {base : Heap}
theorem oneB (b : Bool) : (-(2 ^ 64) < (if b = true then (1 : Int) else 0) ∧ (if b = true then (1 : Int) else 0) < 2 ^ 64) ∧ 0 ≤ (if b = true then (1 : Int) else 0) := by
  cases b <;> decide
theorem scPool : FnScope ["script", "k", "cell", "size", "mixed"] ["script", "k"] (defScope sPool) := ⟨rfl, rfl, rfl, by decide +kernel, rfl, by decide +kernel, by decide +kernel⟩
theorem ok_pool {f : Addr} {fd : FuncData} (F : Fun K "_law_pool" "_law_pool" sPool f fd) (T : BltT mg) : FnOk P w K mg base CX0 1 f fd ["script", "k"] (spPool K) := by
  refine F.ok scPool (fun vs H Q E h => ?_) (fun cdv A outer s H vs Q E hr h => ?_)
  · obtain ⟨a, ns, k, rfl, _⟩ := h
    rfl
  obtain ⟨a, ns, k, rfl, hS, k0, k1, q⟩ := h
  refine ⟨_, pss_cons (ps_set (i := 2) scPool.nd rfl (.inl rfl) pe_int)
    (pss_cons (ps_if (pt_cmpR op_lt (pv 1) (pe_callB call_len_seq (by rfl) T.len PySem.boot_len (pa_cons (pv 0) pa_nil)) (nomark _)) (pss_one (ps_set (i := 2) scPool.nd rfl (.inl rfl) (pe_ix ix_list (pv 0) (pv 1) (fun _ _ => rfl)))) pss_nil)
    (pss_cons (ps_set (i := 3) scPool.nd rfl (.inl rfl) (pe_callB (call_max2 rfl) (by rfl) T.max (by decide +kernel) (pa_cons (pe_callTy call_int1 (by rfl) T.int (by decide +kernel) (pa_cons (pv 2) pa_nil))
        (pa_cons (pe_callTy call_int1 (by rfl) T.int (by decide +kernel) (pa_cons (pe_op op_sub (pe_un un_neg pe_int) (pv 2)) pa_nil)) pa_nil))))
    (pss_cons (ps_set (i := 4) scPool.nd rfl (.inl rfl) (pe_op op_mod (pe_callTy call_int1 (by rfl) T.int (by decide +kernel) (pa_cons (pe_op op_mul
        (pe_op op_add (pe_op op_add (pe_op op_add (pe_op op_mod (pe_callTy call_int1 (by rfl) T.int (by decide +kernel) (pa_cons (pv 3) pa_nil)) pe_int) (pe_op op_mul (pe_op op_mul pe_int (pv 1)) (pv 1))) (pe_op op_mul pe_int (pv 1))) pe_int) pe_int) pa_nil)) pe_int))
    (pss_one (ps_ret (pe_lst (pa_cons (pe_op op_mul (pv 3) (pe_callTy call_int1 (by rfl) T.int (by decide +kernel) (pa_cons (pe_cmpR op_ge (pv 3) (pe_op op_pow pe_int pe_int) (nomark _)) pa_nil))) (pa_cons (pv 4) pa_nil)))))))), ?_⟩
  have hl : (ns.map V.int).length = ns.length := List.length_map _
  refine ⟨_, rfl, _, rfl, a, _, rfl, .inl hS, _, _, rfl, rfl, _, rfl, ?_⟩
  have hsz : ∀ c : Int, 0 ≤ (if -1 - c > c then -1 - c else c) := fun c => by
    split <;> omega
  have hat : k < (((ns.map V.int).length : Nat) : Int) → ∃ v, atI (ns.map V.int) k = some (.int v) := fun c => by
    rw [hl] at c
    have hk : k.toNat < ns.length := by omega
    have z : atI (ns.map V.int) ((k.toNat : Nat) : Int) = some (.int ns[k.toNat]) := atI_nat (by rw [List.getElem?_map, List.getElem?_eq_getElem hk] <;> rfl)
    rw [show ((k.toNat : Nat) : Int) = k by omega] at z
    exact ⟨_, z⟩
  refine ite2 (fun c => ?_) (fun c => ?_)
  · obtain ⟨v, hv⟩ := hat (of_decide_eq_true c)
    refine ⟨_, rfl, _, rfl, a, _, _, _, rfl, rfl, hS, hv, ?_⟩
    refine ⟨_, rfl, .inl ⟨_, rfl, _, rfl, _, rfl, _, _, rfl, rfl, .inl ⟨_, rfl, _, _, rfl, ?_⟩⟩⟩
    refine ⟨_, rfl, .inl ⟨_, rfl, _, _, rfl, rfl, (by show (0 : Int) < 2147483629; decide), _, rfl, _, _, rfl, rfl, .inl (by decide), _, rfl, _, _, rfl, rfl, .inr ⟨by omega, by omega⟩, _, _, rfl, rfl, _, rfl, _, _, rfl, rfl, .inl (by decide), _, _, rfl, rfl, _, _, rfl, rfl, _, _, rfl, rfl, .inr (by decide), .inl ⟨_, rfl, _, _, rfl, rfl, (by show (0 : Int) < 2147483647; decide), ?_⟩⟩⟩
    refine ⟨_, rfl, _, rfl, _, _, rfl, rfl, ⟨by decide, by decide, by decide⟩, _, _, rfl, rfl, .inr ⟨_, rfl, _, _, rfl, rfl, .inr (oneB _).1, _, rfl, (by show 2 ≤ sizeLine; decide), fun p hp => ?_⟩⟩
    exact q p _ _ hp (Int.mul_nonneg (hsz v) (oneB _).2) (Int.emod_nonneg _ (by decide)) (Int.emod_lt_of_pos _ (by decide))
  · refine ⟨_, rfl, .inl ⟨_, rfl, _, rfl, _, rfl, _, _, rfl, rfl, .inl ⟨_, rfl, _, _, rfl, ?_⟩⟩⟩
    refine ⟨_, rfl, .inl ⟨_, rfl, _, _, rfl, rfl, (by show (0 : Int) < 2147483629; decide), _, rfl, _, _, rfl, rfl, .inl (by decide), _, rfl, _, _, rfl, rfl, .inr ⟨by omega, by omega⟩, _, _, rfl, rfl, _, rfl, _, _, rfl, rfl, .inl (by decide), _, _, rfl, rfl, _, _, rfl, rfl, _, _, rfl, rfl, .inr (by decide), .inl ⟨_, rfl, _, _, rfl, rfl, (by show (0 : Int) < 2147483647; decide), ?_⟩⟩⟩
    refine ⟨_, rfl, _, rfl, _, _, rfl, rfl, ⟨by decide, by decide, by decide⟩, _, _, rfl, rfl, .inr ⟨_, rfl, _, _, rfl, rfl, .inr (oneB _).1, _, rfl, (by show 2 ≤ sizeLine; decide), fun p hp => ?_⟩⟩
    exact q p _ _ hp (Int.mul_nonneg (hsz 0) (oneB _).2) (Int.emod_nonneg _ (by decide)) (Int.emod_lt_of_pos _ (by decide))
theorem scTake : FnScope ["pool", "bound", "result"] ["pool", "bound"] (defScope sTake) := ⟨rfl, rfl, rfl, by decide +kernel, rfl, by decide +kernel, by decide +kernel⟩
theorem ok_take {f : Addr} {fd : FuncData} (F : Fun K "_law_take" "_law_take" sTake f fd) (T : BltT mg) : FnOk P w K mg base CX0 1 f fd ["pool", "bound"] spTake := by
  refine F.ok scTake (fun vs H Q E h => ?_) (fun cdv A outer s H vs Q E hr h => ?_)
  · obtain ⟨p, x, y, b, rfl, _⟩ := h
    rfl
  obtain ⟨p, x, y, b, rfl, hp, x0, y0, y1, b0, b1, q⟩ := h
  have ix0 : ∀ {H' : Hp} {x' y' : Int}, H' p = some (.lst [.int x', .int y']) → SqL K H' p [.int x', .int y'] := fun h => SqL.of h
  refine ⟨_, pss_cons (ps_if (pt_cmpR op_gt (pe_ix ix_list (pv 0) pe_int (fun _ _ => rfl)) pe_int (nomark _))
      (pss_cons (ps_set (i := 2) scTake.nd rfl (.inl rfl) (pe_op op_mod (pe_callTy call_int1 (by rfl) T.int (by decide +kernel) (pa_cons (pe_ix ix_list (pv 0) pe_int (fun _ _ => rfl)) pa_nil)) (pv 1)))
      (pss_cons (ps_asg (pe_op op_fdiv (pe_ix ix_list (pv 0) pe_int (fun _ _ => rfl)) (pv 1)) (pg_sub (pv 0) pe_int set_list))
      (pss_one (ps_ret (pv 2))))) pss_nil)
    (pss_cons (ps_asg (pe_op op_mod (pe_callTy call_int1 (by rfl) T.int (by decide +kernel) (pa_cons (pe_op op_add (pe_op op_mul (pe_ix ix_list (pv 0) pe_int (fun _ _ => rfl)) pe_int) pe_int) pa_nil)) pe_int) (pg_sub (pv 0) pe_int set_list))
    (pss_one (ps_ret (pe_op op_mod (pe_callTy call_int1 (by rfl) T.int (by decide +kernel) (pa_cons (pe_op op_fdiv (pe_op op_mod (pe_callTy call_int1 (by rfl) T.int (by decide +kernel) (pa_cons (pe_op op_mul (pe_ix ix_list (pv 0) pe_int (fun _ _ => rfl)) (pe_ix ix_list (pv 0) pe_int (fun _ _ => rfl))) pa_nil)) pe_int) pe_int) pa_nil)) (pv 1))))), ?_⟩
  refine ⟨_, rfl, p, _, _, _, rfl, rfl, ix0 hp, rfl, _, _, rfl, rfl, _, rfl, ?_⟩
  refine ite2 (fun c => ?_) (fun c => ?_)
  · refine ⟨_, rfl, p, _, _, _, rfl, rfl, ix0 hp, rfl, .inl ⟨_, rfl, _, rfl, _, _, rfl, rfl, b0, ?_⟩⟩
    refine ⟨_, rfl, p, _, _, _, rfl, rfl, ix0 hp, rfl, _, rfl, _, _, rfl, rfl, ⟨b0, by omega⟩, _, rfl, p, _, _, 0, rfl, rfl, hp, rfl, _, rfl, ?_⟩
    exact q (x % b) (x / b) y (Int.emod_nonneg _ (by omega)) (Int.emod_lt_of_pos _ b0) (Int.ediv_nonneg x0 (by omega)) y0 y1
  · refine ⟨_, rfl, p, _, _, _, rfl, rfl, ix0 hp, rfl, _, _, rfl, rfl, .inr (by decide), _, _, rfl, rfl, .inl ⟨_, rfl, _, _, rfl, rfl, (by show (0 : Int) < 2147483647; decide), _, rfl, p, _, _, 1, rfl, rfl, hp, rfl, ?_⟩⟩
    have hp' : ∀ z : Int, (upd H p (.lst [.int x, .int z])) p = some (.lst [.int x, .int z]) := fun z => upd_same
    have z0 : 0 ≤ (y * 39373 + 7) % 2147483647 := Int.emod_nonneg _ (by decide)
    have z1 : (y * 39373 + 7) % 2147483647 < 2147483647 := Int.emod_lt_of_pos _ (by decide)
    refine ⟨_, rfl, p, _, _, _, rfl, rfl, ix0 (hp' _), rfl, _, rfl, p, _, _, _, rfl, rfl, ix0 (hp' _), rfl, _, _, rfl, rfl, .inl ⟨by omega, by omega⟩, .inl ⟨_, rfl, _, _, rfl, rfl, (by show (0 : Int) < 2147483629; decide), _, _, rfl, rfl, ⟨by decide, by decide⟩, .inl ⟨_, rfl, _, rfl, _, _, rfl, rfl, b0, ?_⟩⟩⟩
    exact q _ x _ (Int.emod_nonneg _ (by omega)) (Int.emod_lt_of_pos _ b0) x0 z0 z1
end
end TS
namespace TS
open PySem L2
abbrev sOne : Stmt := top 30
abbrev sWords : Stmt := top 32
abbrev sLTree : Stmt := top 33
abbrev sLText : Stmt := top 34
section
variable {P : Program} {w : World} {K : PySem.W.Frag} {mg : Str → Option Value} {base : Heap}
/-- the pool is changed alone -/
def PoolOff (p : Addr) (H H' : Hp) : Prop := SameOff [p] H H' ∧ PoolAt H' p
theorem PoolOff.trans {p : Addr} {H H1 H2 : Hp} (a : PoolOff p H H1) (b : PoolOff p H1 H2) : PoolOff p H H2 := ⟨a.1.trans b.1, b.2⟩
theorem PoolAt.lst {H : Hp} {p : Addr} (h : PoolAt H p) : ∃ xs, H p = some (.lst xs) := let ⟨x, y, e, _⟩ := h; ⟨_, e⟩
theorem PoolAt.same {H H' : Hp} {p : Addr} (h : PoolAt H p) (s : Same H H') : PoolAt H' p := let ⟨x, y, e, r⟩ := h; ⟨x, y, s _ _ e, r⟩
theorem PoolAt.some {H : Hp} {p : Addr} (h : PoolAt H p) : H p ≠ none := by
  obtain ⟨x, y, e, _⟩ := h
  rw [e]
  intro z
  cases z
theorem PoolAt.ne {H : Hp} {p D : Addr} (h : PoolAt H p) (hD : H D = none) : D ≠ p := fun e => h.some (by rw [← e]; exact hD)
theorem off_free {Ds : List Addr} {H H' : Hp} (s : SameOff Ds H H') {l : Addr} (h : H' l = none) (n : l ∉ Ds) : H l = none := by
  cases q : H l with
  | none => rfl
  | some o =>
    have := s l o q n
    rw [h] at this
    cases this
theorem PoolOff.free {p : Addr} {H H' : Hp} (s : PoolOff p H H') {l : Addr} (h : H' l = none) : H l = none := off_free s.1 h (by simpa using s.2.ne h)
theorem pool_lists {H : Hp} {p : Addr} (h : PoolAt H p) : Lists [p] H := fun D m => by
  rw [List.mem_singleton.mp m]
  exact h.lst
/-! _law_one -/
def spOne (K : PySem.W.Frag) : Sp := fun vs H Q _ => ∃ (p : Addr) (x : V), vs = [.ref p, x] ∧ PoolAt H p ∧
  ((∃ (l : Addr) (xs : List V), x = .ref l ∧ l ≠ p ∧ SqL K H l xs ∧ 0 < xs.length ∧ xs.length ≤ 1000 ∧ ∀ (H' : Hp) (i : Nat) (v : V), xs[i]? = some v → PoolOff p H H' → Q v H') ∨
   (∃ z : Str, x = .str z ∧ 0 < z.length ∧ z.length ≤ 1000 ∧ ∀ (H' : Hp) (c : Nat), c ∈ z.cps.toList → PoolOff p H H' → Q (.str ⟨#[c]⟩) H'))
theorem scOne : FnScope ["pool", "things"] ["pool", "things"] (defScope sOne) := ⟨rfl, rfl, rfl, by decide +kernel, rfl, by decide +kernel, by decide +kernel⟩
theorem pool_upd {H : Hp} {p : Addr} {x' y' : Int} (h0 : 0 ≤ x') (h1 : 0 ≤ y') (h2 : y' < 2147483647) : PoolOff p H (upd H p (.lst [.int x', .int y'])) :=
  ⟨off_upd (SameOff.refl _ _) (by simp), x', y', upd_same, h0, h1, h2⟩
theorem ok_one {f : Addr} {fd : FuncData} (F : Fun K "_law_one" "_law_one" sOne f fd) (T : BltT mg) (D1 : Has P w K mg base "_law_take" 1 ["pool", "bound"] spTake) : FnOk P w K mg base CX0 2 f fd ["pool", "things"] (spOne K) := by
  obtain ⟨f1, fd1, m1, k1, b1, G1⟩ := D1
  refine F.ok scOne (fun vs H Q E h => ?_) (fun cdv A outer s H vs Q E hr h => ?_)
  · obtain ⟨p, x, rfl, _⟩ := h
    rfl
  obtain ⟨p, x, rfl, hp, q⟩ := h
  refine ⟨_, pss_one (ps_ret (pe_ix ix_seq (pv 1) (pe_call G1 hr rfl m1 k1 b1 .nil pass0 (pa_cons (pv 0) (pa_cons (pe_callB call_len (by rfl) T.len PySem.boot_len (pa_cons (pv 1) pa_nil)) pa_nil))) (fun _ _ => rfl))), ?_⟩
  obtain ⟨a, b, ep, a0, b0, b1'⟩ := id hp
  rcases q with ⟨l, xs, rfl, nl, hl, l0, l1, q⟩ | ⟨z, rfl, l0, l1, q⟩
  · refine ⟨_, rfl, _, rfl, _, rfl, .ref l, xs.length, rfl, .inl ⟨xs, hl, rfl⟩, p, a, b, _, rfl, ep, a0, b0, b1', by omega, by omega, fun r x' y' r0 r1 x0 y0 y1 => ?_⟩
    have hr1 : r.toNat < xs.length := by omega
    refine .inl ⟨l, xs, _, xs[r.toNat], rfl, rfl, ?_, ?_, q _ _ _ (List.getElem?_eq_getElem hr1) (pool_upd x0 y0 y1)⟩
    · have : SameOff [p] H (upd H p (.lst [.int x', .int y'])) := off_upd (SameOff.refl _ _) (by simp)
      rcases hl with (h | ⟨o, h⟩) | h
      · exact .inl (.inl (this _ _ h (by simpa using nl)))
      · exact .inl (.inr ⟨o, this _ _ h (by simpa using nl)⟩)
      · exact .inr h
    · have z : atI xs ((r.toNat : Nat) : Int) = some xs[r.toNat] := atI_nat (List.getElem?_eq_getElem hr1)
      rw [show ((r.toNat : Nat) : Int) = r by omega] at z
      exact z
  · have big : z.length ≤ sizeLine := Nat.le_trans l1 (by decide)
    refine ⟨_, rfl, _, rfl, _, rfl, .str z, z.length, rfl, ⟨big, rfl⟩, p, a, b, _, rfl, ep, a0, b0, b1', by omega, by omega, fun r x' y' r0 r1 x0 y0 y1 => ?_⟩
    have hr1 : r.toNat < z.cps.toList.length := by rw [len_codes]; omega
    refine .inr (.inr ⟨z, _, z.cps.toList[r.toNat], rfl, rfl, big, ?_, q _ _ (List.getElem_mem hr1) (pool_upd x0 y0 y1)⟩)
    have z1 : atI z.cps.toList ((r.toNat : Nat) : Int) = some z.cps.toList[r.toNat] := atI_nat (List.getElem?_eq_getElem hr1)
    rw [show ((r.toNat : Nat) : Int) = r by omega] at z1
    exact z1
end
end TS
namespace TS
open PySem L2
section
variable {P : Program} {w : World} {K : PySem.W.Frag} {mg : Str → Option Value} {base : Heap}
/-- [e for k in range(n)], e a call that changes the pool alone -/
theorem lc_poolR (R : Nat → Hp → V → Prop) {p D : Addr} {lo : Int} {n k : Nat} {te : TE} {σ : St} {H : Hp} {Qd : Hp → Prop} (hp : PoolAt H p) (hD : H D = none) (hn : n ≤ 1000)
    (hw : ∀ v, wipe ((wipe σ [k]).set k v) [k] = wipe σ [k])
    (step : ∀ (i : Nat) (H1 : Hp) (G : VK), i < n → PoolOff p H H1 → Lists [p, D] H1 → (∀ (y : V) H2, PoolOff p H1 H2 → (∀ H3, SameOff [p, D] H2 H3 → R i H3 y) → G y H2) → te ((wipe σ [k]).set k (some (.int (lo + i)))) H1 G)
    (hd : ∀ H1 ys, PoolOff p H H1 → H1 D = some (.lst ys) → ys.length = n → (∀ i y, ys[i]? = some y → R i H1 y) → Qd H1) :
    ∃ W : Nat → Nat → Hp → Prop, (∃ m, W 0 m (upd H D (.lst []))) ∧ ∀ i m H, W i m H →
      ((Itr lo n).stop i H ∧ Qd H) ∨ ((Itr lo n).go i H ∧ ∃ Nx : Hp → Prop, (∀ H', Nx H' → ∃ m', m' < m ∧ W (i + 1) m' H') ∧ ∀ x H', (Itr lo n).yld i H x H' → gName k x (wipe σ [k]) H' fun σ2 H2 => wipe σ2 [k] = wipe σ [k] ∧ tYes σ2 H2 fun b H3 =>
        if b = true then te σ2 H3 fun y H4 => ∃ acc, H4 D = some (.lst acc) ∧ acc.length < sizeLine ∧ Nx (upd H4 D (.lst (acc ++ [y]))) else Nx H3) := by
  have nD : D ≠ p := hp.ne hD
  refine lc_range (lo := lo) (n := n) (fun i H1 => PoolOff p H H1 ∧ ∃ ys, H1 D = some (.lst ys) ∧ ys.length = i ∧ ∀ j y, ys[j]? = some y → ∀ H3, SameOff [p, D] H1 H3 → R j H3 y) ⟨⟨off_new (SameOff.refl _ _) hD, hp.same (same_upd hD _)⟩, [], upd_same, rfl, fun j y h => by simp at h⟩ (fun i H1 hi z => ?_) (fun H1 z => ?_)
  · obtain ⟨s1, ys, d1, l1, e1⟩ := z
    refine ⟨hw _, ?_⟩
    unfold tYes
    dsimp only
    rw [if_pos rfl]
    refine step i H1 _ hi s1 (fun b m => ?_) fun y H2 s2 r2 => ?_
    · simp only [List.mem_cons, List.not_mem_nil, or_false] at m
      rcases m with rfl | rfl
      · exact s1.2.lst
      · exact ⟨ys, d1⟩
    have d2 : H2 D = some (.lst ys) := s2.1 _ _ d1 (by simpa using nD)
    refine ⟨ys, d2, small1000 (by omega), ⟨fun b o q hb => ?_, ?_⟩, ys ++ [y], upd_same, by simp [l1], fun j y' hj H3 s3 => ?_⟩
    · rw [upd_ne (ne_of_none q hD)]
      exact s2.1 _ _ (s1.1 _ _ q hb) hb
    · obtain ⟨a, b, e, r⟩ := s2.2
      exact ⟨a, b, by rw [upd_ne nD.symm]; exact e, r⟩
    · have off2 : SameOff [p, D] H2 H3 := (off_upd (SameOff.refl _ _) (by simp)).trans s3
      by_cases hj' : j < ys.length
      · rw [List.getElem?_append_left hj'] at hj
        exact e1 j y' hj H3 ((show SameOff [p, D] H1 H2 from fun b o q hb => s2.1 b o q (by simp at hb ⊢; exact hb.1)).trans off2)
      · rw [List.getElem?_append_right (by omega)] at hj
        cases hq : j - ys.length with
        | zero =>
          rw [hq] at hj
          simp at hj
          subst hj
          have : j = i := by omega
          subst this
          exact r2 H3 off2
        | succ q =>
          rw [hq] at hj
          simp at hj
  · obtain ⟨s1, ys, d1, l1, e1⟩ := z
    exact hd H1 ys s1 d1 l1 fun i y hi => e1 i y hi H1 (SameOff.refl _ _)
/-- a text of letters -/
def Lets (x : Str) : Prop := ∀ c ∈ x.cps.toList, isLet c = true
theorem lets_app {a b : Str} (ha : Lets a) (hb : Lets b) : Lets (a ++ b) := fun c h => by
  rw [codes_append] at h
  rcases List.mem_append.mp h with h | h
  · exact ha c h
  · exact hb c h
theorem lets_one {c : Nat} (h : isLet c = true) : Lets ⟨#[c]⟩ := fun d hd => by
  have : d = c := by simpa using hd
  rw [this]
  exact h
theorem len_one (c : Nat) : (⟨#[c]⟩ : Str).length = 1 := rfl
theorem len_app (a b : Str) : (a ++ b).length = a.length + b.length := Str.length_append a b
theorem join_lets0 {e : Str} (he : e.cps.toList = []) : ∀ (ys : List Str), (∀ y ∈ ys, Lets y ∧ y.length = 1) → Lets (Str.join e ys) ∧ (Str.join e ys).length = ys.length
  | [], _ => ⟨fun c h => (by cases h), rfl⟩
  | [y], h => h y (by simp)
  | x :: y :: r, h => by
    have ih := join_lets0 he (y :: r) fun z hz => h z (by simp [hz])
    have hx := h x (by simp)
    have le : e.length = 0 := by rw [← len_codes, he]; rfl
    have ee : Lets e := fun c hc => by rw [he] at hc; cases hc
    show Lets (x ++ e ++ Str.join e (y :: r)) ∧ (x ++ e ++ Str.join e (y :: r)).length = _
    refine ⟨lets_app (lets_app hx.1 ee) ih.1, ?_⟩
    rw [len_app, len_app, ih.2, hx.2, le]
    simp only [List.length_cons]
    omega
theorem join_lets {e : Str} (he : e.cps.toList = []) (ys : List Str) (h : ∀ y ∈ ys, Lets y ∧ y.length = 1) : Lets (Txt.join e ys) ∧ (Txt.join e ys).length = ys.length := by
  rw [TL.join_eq]
  exact join_lets0 he ys h
theorem sum_len1 : ∀ (ys : List Str), (∀ y ∈ ys, Lets y ∧ y.length = 1) → (ys.map (·.length)).sum = ys.length
  | [], _ => rfl
  | y :: r, h => by
    have ih := sum_len1 r fun z hz => h z (by simp [hz])
    have hy := (h y (by simp)).2
    simp only [List.map_cons, List.sum_cons, List.length_cons, ih, hy]
    omega
/-- a row of texts, told item by item -/
theorem texts_of {φ : Str → Prop} : ∀ (ys : List V), (∀ y ∈ ys, ∃ x, y = V.str x ∧ φ x) → ∃ xs : List Str, ys = xs.map V.str ∧ ∀ x ∈ xs, φ x
  | [], _ => ⟨[], rfl, fun x h => by cases h⟩
  | y :: r, h => by
    obtain ⟨xs, e, hx⟩ := texts_of r fun z hz => h z (by simp [hz])
    obtain ⟨x, rfl, p⟩ := h y (by simp)
    exact ⟨x :: xs, by rw [e]; rfl, fun z hz => by rcases List.mem_cons.mp hz with rfl | hz; exact p; exact hx z hz⟩
theorem texts_at {φ : Str → Prop} {ys : List V} (h : ∀ (i : Nat) y, ys[i]? = some y → ∃ x, y = V.str x ∧ φ x) : ∃ xs : List Str, ys = xs.map V.str ∧ ∀ x ∈ xs, φ x :=
  texts_of ys fun y hy => by
    obtain ⟨i, hi, e⟩ := List.getElem_of_mem hy
    exact h i y (by rw [← e]; exact List.getElem?_eq_getElem hi)
/-! _law_words -/
structure BltU (mg : Str → Option Value) : Prop where
  range : mg "range" = none
  list : mg "list" = none
  min : mg "min" = none
  enum : mg "enumerate" = none
abbrev nmWords : List Str := ["pool", "bound", "letters", "first", "stride", "head", "turn", "tail", "spot"]
theorem scWords : FnScope nmWords ["pool", "bound"] (defScope sWords) := ⟨rfl, rfl, rfl, by decide +kernel, rfl, by decide +kernel, by decide +kernel⟩
def spWords : Sp := fun vs H Q _ => ∃ (p : Addr) (n : Nat), vs = [.ref p, .int n] ∧ PoolAt H p ∧ n ≤ 26 ∧
  ∀ (H' : Hp) (l : Addr) (ws : List Str), PoolOff p H H' → H l = none → H' l = some (.lst (ws.map V.str)) → ws.length = n → (∀ x ∈ ws, WordOk x ∧ x.length ≤ 5) → Q (.ref l) H'
abbrev abc : Str := "abcdefghijklmnopqrstuvwxyz"
theorem abc_len : abc.length = 26 := by decide +kernel
theorem abc_let {c : Nat} (h : c ∈ abc.cps.toList) : isLet c = true := decide_eq_true h
theorem strides_len : ([.int 1, .int 3, .int 5, .int 7, .int 9, .int 11, .int 15, .int 17, .int 19, .int 21, .int 23, .int 25] : List V).length = 12 := rfl
theorem strides_int : ∀ (i : Nat) (v : V), ([.int 1, .int 3, .int 5, .int 7, .int 9, .int 11, .int 15, .int 17, .int 19, .int 21, .int 23, .int 25] : List V)[i]? = some v → ∃ k : Int, v = .int k ∧ 0 ≤ k ∧ k ≤ 25 := by
  intro i v h
  rcases i with _ | _ | _ | _ | _ | _ | _ | _ | _ | _ | _ | _ | i <;> simp at h <;> (subst h; exact ⟨_, rfl, by decide, by decide⟩)
theorem ok_words {f : Addr} {fd : FuncData} (F : Fun K "_law_words" "_law_words" sWords f fd) (T : BltT mg) (U : BltU mg) (D1 : Has P w K mg base "_law_take" 1 ["pool", "bound"] spTake) (D2 : Has P w K mg base "_law_one" 2 ["pool", "things"] (spOne K)) :
    FnOk P w K mg base CX0 3 f fd ["pool", "bound"] spWords := by
  obtain ⟨f1, fd1, m1, k1, b1, G1⟩ := D1
  obtain ⟨f2, fd2, m2, k2, b2, G2⟩ := D2
  refine F.ok scWords (fun vs H Q E h => ?_) (fun cdv A outer s H vs Q E hr h => ?_)
  · obtain ⟨p, n, rfl, _⟩ := h
    rfl
  obtain ⟨p, n, rfl, hp, hn, q⟩ := h
  have r1 : Room 1 _ := hr.mono (by decide)
  refine ⟨_, pss_cons (ps_set (i := 2) scWords.nd rfl (.inr rfl) pe_str)
    (pss_cons (ps_asg (pe_tup (pa_cons (pe_call G1 r1 rfl m1 k1 b1 .nil pass0 (pa_cons (pv 0) (pa_cons pe_int pa_nil)))
      (pa_cons (pe_call G2 hr rfl m2 k2 b2 .nil pass0 (pa_cons (pv 0) (pa_cons (pe_lst (pa_cons pe_int (pa_cons pe_int (pa_cons pe_int (pa_cons pe_int (pa_cons pe_int (pa_cons pe_int (pa_cons pe_int (pa_cons pe_int (pa_cons pe_int (pa_cons pe_int (pa_cons pe_int (pa_cons pe_int pa_nil))))))))))))) pa_nil))) pa_nil))) (pg_tup (by rfl) (pgs_cons (pg_name (i := 3) scWords.nd rfl (.inr rfl)) (pgs_cons (pg_name (i := 4) scWords.nd rfl (.inr rfl)) pgs_nil))))
    (pss_cons (ps_set (i := 5) scWords.nd rfl (.inr rfl) (pe_join pe_str (pe_lc (own := [("turn", 6)]) (g := gName 6) (tt := tYes) (by rfl) scWords.nd (pi_range1 rfl U.range (pa_cons (pe_call G1 r1 rfl m1 k1 b1 .nil pass0 (pa_cons (pv 0) (pa_cons pe_int pa_nil))) pa_nil)) (blkOk_by (own := [("turn", 6)]) (N := nmWords) (sc := defScope sWords) (by decide +kernel)) (fun _ _ _ _ _ => pg_name (i := 6) scWords.nd rfl (Or.inl rfl)) (fun _ _ _ _ _ => pts_nil)
        (fun _ _ _ _ _ => pe_call G2 hr rfl m2 k2 b2 .nil pass0 (pa_cons (pv 0) (pa_cons (pv 2) pa_nil))))))
    (pss_cons (ps_set (i := 7) scWords.nd rfl (.inr rfl) (pe_join pe_str (pe_lc (own := [("turn", 6)]) (g := gName 6) (tt := tYes) (by rfl) scWords.nd (pi_range1 rfl U.range (pa_cons (pe_call G1 r1 rfl m1 k1 b1 .nil pass0 (pa_cons (pv 0) (pa_cons pe_int pa_nil))) pa_nil)) (blkOk_by (own := [("turn", 6)]) (N := nmWords) (sc := defScope sWords) (by decide +kernel)) (fun _ _ _ _ _ => pg_name (i := 6) scWords.nd rfl (Or.inl rfl)) (fun _ _ _ _ _ => pts_nil)
        (fun _ _ _ _ _ => pe_call G2 hr rfl m2 k2 b2 .nil pass0 (pa_cons (pv 0) (pa_cons (pv 2) pa_nil))))))
    (pss_one (ps_ret (pe_lc (own := [("spot", 8)]) (g := gName 8) (tt := tYes) (by rfl) scWords.nd (pi_range1 rfl U.range (pa_cons (pv 1) pa_nil)) (blkOk_by (own := [("spot", 8)]) (N := nmWords) (sc := defScope sWords) (by decide +kernel)) (fun _ _ _ _ _ => pg_name (i := 8) scWords.nd rfl (Or.inl rfl)) (fun _ _ _ _ _ => pts_nil)
        (fun _ _ _ _ _ => pe_op op_add_str (pe_op op_add_str (pv 5) (pe_ix ix_str (pv 2) (pe_op op_mod (pe_callTy call_int1 (by rfl) T.int (by decide +kernel) (pa_cons (pe_op op_add (pv 3) (pe_op op_mul (pv 4) (pv 8))) pa_nil)) pe_int) (fun _ _ => rfl))) (pv 7)))))))), ?_⟩
  have ab : ∀ {H' : Hp} {R : VK} {v : V}, PoolAt H' p → v = .str abc → (∀ H2 c, c ∈ abc.cps.toList → PoolOff p H' H2 → R (.str ⟨#[c]⟩) H2) → spOne K [.ref p, v] H' R E0 := fun h e g => ⟨p, _, rfl, h, .inr ⟨abc, e, by rw [abc_len]; decide, by rw [abc_len]; decide, g⟩⟩
  obtain ⟨a, b, ep, a0, b0, b1'⟩ := id hp
  -- first, stride
  refine ⟨_, rfl, p, a, b, 26, rfl, ep, a0, b0, b1', by decide, by decide, fun r x' y' r0 r1' x0 y0 y1 => ?_⟩
  have g1 : PoolOff p H (upd H p (.lst [.int x', .int y'])) := pool_upd x0 y0 y1
  generalize upd H p (.lst [.int x', .int y']) = H1 at g1
  refine ⟨_, rfl, by show 12 ≤ sizeLine; decide, fun l hl => ?_⟩
  have nl : l ≠ p := g1.2.ne hl
  have g2 : PoolOff p H1 (upd H1 l (.lst [.int 1, .int 3, .int 5, .int 7, .int 9, .int 11, .int 15, .int 17, .int 19, .int 21, .int 23, .int 25])) := ⟨off_new (SameOff.refl _ _) hl, g1.2.same (same_upd hl _)⟩
  refine ⟨p, .ref l, rfl, g2.2, .inl ⟨l, _, rfl, nl, SqL.of upd_same, by rw [strides_len]; decide, by rw [strides_len]; decide, fun H3 i v hv g3 => ?_⟩⟩
  obtain ⟨st, rfl, st0, st25⟩ := strides_int i v hv
  have g4 := (g1.trans g2).trans g3
  refine ⟨by show 2 ≤ sizeLine; decide, fun t ht => ?_⟩
  have g5 : PoolOff p H (upd H3 t (.tup [.int r, .int st])) := g4.trans ⟨off_new (SameOff.refl _ _) ht, g3.2.same (same_upd ht _)⟩
  refine ⟨t, _, rfl, SqT.of upd_same, rfl, _, _, rfl, _, _, rfl, rfl, ?_⟩
  generalize upd H3 t (.tup [.int r, .int st]) = H4 at g5
  -- head
  obtain ⟨ha, hb, he, ha0, hb0, hb1⟩ := id g5.2
  refine ⟨⟨_, rfl⟩, _, rfl, p, ha, hb, 3, rfl, he, ha0, hb0, hb1, by decide, by decide, fun r1 x1 y1 ra rb xa ya yb => ?_⟩
  have gg1 : PoolOff p H4 (upd H4 p (.lst [.int x1, .int y1])) := pool_upd xa ya yb
  generalize upd H4 p (.lst [.int x1, .int y1]) = H5 at gg1
  refine ⟨r1, rfl, by omega, by omega, fun D hD => lc_poolR (R := fun _ _ y => ∃ x : Str, y = .str x ∧ Lets x ∧ x.length = 1) gg1.2 hD (by omega) (fun _ => rfl) (fun i H1 G hi s1 hL hG => ?_) (fun H6 ys s1 d1 l1 hR => ?_)⟩
  · exact ⟨_, rfl, _, rfl, ab s1.2 rfl fun H2 c hc s2 => hG _ H2 s2 fun H3 s3 => ⟨_, rfl, lets_one (abc_let hc), rfl⟩⟩
  obtain ⟨ss1, rfl, st1⟩ := texts_at hR
  rw [List.length_map] at l1
  have jl1 := join_lets (e := ("" : Str)) (by decide +kernel) ss1 st1
  refine ⟨_, D, ss1, rfl, rfl, .inl (SqL.of d1), ?_, ?_⟩
  · have e1 := sum_len1 ss1 st1
    have e2 : ("" : Str).length = 0 := by decide +kernel
    rw [e1, e2]
    omega
  have jn1 : (Txt.join ("" : Str) ss1).length ≤ 2 := by rw [jl1.2]; omega
  replace jl1 := jl1.1
  generalize Txt.join ("" : Str) ss1 = hd1 at jl1 jn1
  have g6 := g5.trans (gg1.trans s1)
  clear hR st1 d1 l1 s1 gg1
  -- tail
  obtain ⟨ta, tb, te, ta0, tb0, tb1⟩ := id g6.2
  refine ⟨⟨_, rfl⟩, _, rfl, p, ta, tb, 3, rfl, te, ta0, tb0, tb1, by decide, by decide, fun r1 x1 y1 ra rb xa ya yb => ?_⟩
  have gg2 : PoolOff p H6 (upd H6 p (.lst [.int x1, .int y1])) := pool_upd xa ya yb
  generalize upd H6 p (.lst [.int x1, .int y1]) = H7 at gg2
  refine ⟨r1, rfl, by omega, by omega, fun D hD => lc_poolR (R := fun _ _ y => ∃ x : Str, y = .str x ∧ Lets x ∧ x.length = 1) gg2.2 hD (by omega) (fun _ => rfl) (fun i H1 G hi s1 hL hG => ?_) (fun H8 ys s1 d1 l1 hR => ?_)⟩
  · exact ⟨_, rfl, _, rfl, ab s1.2 rfl fun H2 c hc s2 => hG _ H2 s2 fun H3 s3 => ⟨_, rfl, lets_one (abc_let hc), rfl⟩⟩
  obtain ⟨ss2, rfl, st2⟩ := texts_at hR
  rw [List.length_map] at l1
  have jl2 := join_lets (e := ("" : Str)) (by decide +kernel) ss2 st2
  refine ⟨_, D, ss2, rfl, rfl, .inl (SqL.of d1), ?_, ?_⟩
  · have e1 := sum_len1 ss2 st2
    have e2 : ("" : Str).length = 0 := by decide +kernel
    rw [e1, e2]
    omega
  have jn2 : (Txt.join ("" : Str) ss2).length ≤ 2 := by rw [jl2.2]; omega
  replace jl2 := jl2.1
  generalize Txt.join ("" : Str) ss2 = tl1 at jl2 jn2
  have g7 := g6.trans (gg2.trans s1)
  clear hR st2 d1 l1 s1 gg2
  -- the words
  refine ⟨_, rfl, n, rfl, by omega, by omega, fun D hD => lc_poolR (R := fun _ _ y => ∃ x : Str, y = .str x ∧ WordOk x ∧ x.length ≤ 5) g7.2 hD (by omega) (fun _ => rfl) (fun i H1 G hi s1 hL hG => ?_) (fun H9 ys s1 d1 l1 hR => ?_)⟩
  · have m0 : 0 ≤ (r + st * (0 + (i : Int))) % 26 := Int.emod_nonneg _ (by decide)
    have m1 : (r + st * (0 + (i : Int))) % 26 < 26 := Int.emod_lt_of_pos _ (by decide)
    have hm : ((r + st * (0 + (i : Int))) % 26).toNat < abc.cps.toList.length := by
      rw [len_codes, abc_len]
      omega
    have z1 : atI abc.cps.toList ((((r + st * (0 + (i : Int))) % 26).toNat : Nat) : Int) = some abc.cps.toList[((r + st * (0 + (i : Int))) % 26).toNat] := atI_nat (List.getElem?_eq_getElem hm)
    rw [show ((((r + st * (0 + (i : Int))) % 26).toNat : Nat) : Int) = (r + st * (0 + (i : Int))) % 26 by omega] at z1
    have hc : isLet abc.cps.toList[((r + st * (0 + (i : Int))) % 26).toNat] = true := abc_let (List.getElem_mem hm)
    generalize abc.cps.toList[((r + st * (0 + (i : Int))) % 26).toNat] = c at z1 hc
    refine ⟨_, rfl, _, rfl, _, rfl, _, rfl, _, rfl, _, _, rfl, rfl, .inl ⟨by omega, by omega⟩, _, _, rfl, rfl, .inl ⟨_, rfl, _, _, rfl, rfl, by show (0 : Int) < 26; decide, ?_⟩⟩
    refine ⟨abc, _, c, rfl, rfl, by rw [abc_len]; decide, z1, ?_⟩
    refine ⟨_, _, rfl, rfl, ?_, _, rfl, _, _, rfl, rfl, ?_, ?_⟩
    · rw [len_one]
      exact Nat.le_trans (show _ ≤ 3 by omega) (by decide)
    · rw [len_app, len_one]
      exact Nat.le_trans (show _ ≤ 5 by omega) (by decide)
    · refine hG _ H1 ⟨SameOff.refl _ _, s1.2⟩ fun H3 s3 => ⟨_, rfl, ⟨?_, ?_, lets_app (lets_app jl1 (lets_one hc)) jl2⟩, ?_⟩
      · rw [len_app, len_app, len_one]
        omega
      · rw [len_app, len_app, len_one]
        omega
      · rw [len_app, len_app, len_one]
        omega
  obtain ⟨ws, rfl, hw⟩ := texts_at hR
  rw [List.length_map] at l1
  have g8 := g7.trans s1
  exact q H9 D ws g8 (g7.free hD) d1 (by omega) hw
end
end TS
namespace TS
open PySem L2
/-! data in the heap: trees, rows of texts, of numbers -/
def Tr.data : Tr → PyData
  | .num n => .int n
  | .wd x => .str x
  | .ch a b c d => .tuple [a.data, b.data, c.data, d.data]
/-- plain signs alone -/
def Plain (x : Str) : Prop := ∀ c ∈ x.cps.toList, c < 128
theorem Plain.ok {x : Str} (h : Plain x) : PyData.strOk x = true := by
  unfold PyData.strOk
  rw [← Array.all_toList]
  simp only [List.all_eq_true, decide_eq_true_eq]
  intro c hc
  have := h c hc
  omega
theorem plain_word {x : Str} (h : WordOk x) : Plain x := fun c hc => by
  have := isLet_iff.mp (h.2.2 c hc)
  omega
theorem plain_text : ∀ {t : Tr}, t.fine → Plain t.text
  | .num n, h => fun c hc => by
    have e : (Tr.num n).text.cps.toList = [48 + n.toNat] := codes_digit h.1 h.2
    rw [e] at hc
    have := h.2
    simp at hc
    omega
  | .wd x, h => plain_word h
  | .ch a b c d, h => fun k hk => by
    obtain ⟨h1, h2, h3, h4⟩ := h
    rw [codes_ch] at hk
    simp only [List.mem_cons, List.mem_append, List.not_mem_nil, or_false] at hk
    rcases hk with rfl | hk | rfl | hk | rfl | hk | rfl | hk | rfl
    · decide
    · exact plain_text h1 k hk
    · decide
    · exact plain_text h2 k hk
    · decide
    · exact plain_text h3 k hk
    · decide
    · exact plain_text h4 k hk
    · decide
theorem Tr.lay : ∀ {t : Tr}, t.fine → t.data.canLay0 = true
  | .num n, _ => by simp [Tr.data, PyData.canLay0]
  | .wd x, h => by simp [Tr.data, PyData.canLay0, (plain_word h).ok]
  | .ch a b c d, h => by simp [Tr.data, PyData.canLay0, PyData.canLayAll0, Tr.lay h.1, Tr.lay h.2.1, Tr.lay h.2.2.1, Tr.lay h.2.2.2]
theorem Tr.ddepth : ∀ t : Tr, t.data.depth + 1 ≤ t.deep + 1
  | .num n => by simp [Tr.data, PyData.depth, Tr.deep]
  | .wd x => by simp [Tr.data, PyData.depth, Tr.deep]
  | .ch a b c d => by
    have h1 := Tr.ddepth a
    have h2 := Tr.ddepth b
    have h3 := Tr.ddepth c
    have h4 := Tr.ddepth d
    simp only [Tr.data, PyData.depth, PyData.depthAll, Tr.deep]
    omega
theorem shaped_mk {d : PyData} (h : d.canLay0 = true) (g : d.depth ≤ 64) : SeqAt.shaped d = true := by
  show (d.canLay0 && decide (d.depth ≤ 64)) = true
  rw [h, decide_eq_true g]
  rfl
theorem Tr.shaped {t : Tr} (hf : t.fine) (h : t.deep ≤ 60) : SeqAt.shaped t.data = true := shaped_mk (Tr.lay hf) (by have := t.ddepth; omega)
theorem Tr.eqv_iff : ∀ t u : Tr, PyData.eqv t.data u.data = true ↔ t = u
  | .num n, .num m => by simp [Tr.data, PyData.eqv]
  | .wd x, .wd y => by simp [Tr.data, PyData.eqv]
  | .num n, .wd y => by simp [Tr.data, PyData.eqv]
  | .num n, .ch a b c d => by simp [Tr.data, PyData.eqv]
  | .wd x, .num m => by simp [Tr.data, PyData.eqv]
  | .wd x, .ch a b c d => by simp [Tr.data, PyData.eqv]
  | .ch a b c d, .num m => by simp [Tr.data, PyData.eqv]
  | .ch a b c d, .wd y => by simp [Tr.data, PyData.eqv]
  | .ch a b c d, .ch a' b' c' d' => by
    simp only [Tr.data, PyData.eqv, PyData.eqvAll, Bool.and_eq_true, Tr.eqv_iff a a', Tr.eqv_iff b b', Tr.eqv_iff c c', Tr.eqv_iff d d', Tr.ch.injEq, and_true]
theorem Tr.dp {K : PySem.W.Frag} {H : Hp} {v : V} {t : Tr} (h : TrAt H v t) : Dp K H v t.data := by
  induction h with
  | num n => exact .int n
  | wd x => exact .str x
  | ch h _ _ _ _ a b c d => exact .tup (SqT.of h) (.cons a (.cons b (.cons c (.cons d .nil))))
theorem dpStrs {K : PySem.W.Frag} {H : Hp} : ∀ ws : List Str, DpAll K H (ws.map V.str) (ws.map PyData.str)
  | [] => .nil
  | w :: ws => .cons (.str w) (dpStrs ws)
theorem dpInts {K : PySem.W.Frag} {H : Hp} : ∀ ns : List Int, DpAll K H (ns.map V.int) (ns.map PyData.int)
  | [] => .nil
  | n :: ns => .cons (.int n) (dpInts ns)
theorem layStrs : ∀ ws : List Str, (∀ x ∈ ws, Plain x) → PyData.canLayAll0 (ws.map PyData.str) = true
  | [], _ => by simp [PyData.canLayAll0]
  | w :: ws, h => by simp [PyData.canLayAll0, PyData.canLay0, (h w (by simp)).ok, layStrs ws fun x hx => h x (by simp [hx])]
theorem layInts : ∀ ns : List Int, PyData.canLayAll0 (ns.map PyData.int) = true
  | [] => by simp [PyData.canLayAll0]
  | n :: ns => by simp [PyData.canLayAll0, PyData.canLay0, layInts ns]
theorem depStrs : ∀ ws : List Str, PyData.depthAll (ws.map PyData.str) ≤ 1
  | [] => by simp [PyData.depthAll]
  | w :: ws => by
    have := depStrs ws
    simp only [List.map_cons, PyData.depthAll, PyData.depth]
    omega
theorem depInts : ∀ ns : List Int, PyData.depthAll (ns.map PyData.int) ≤ 1
  | [] => by simp [PyData.depthAll]
  | n :: ns => by
    have := depInts ns
    simp only [List.map_cons, PyData.depthAll, PyData.depth]
    omega
mutual
theorem dp_same {K : PySem.W.Frag} {H H' : Hp} (s : Same H H') : ∀ (d : PyData) (v : V), Dp K H v d → Dp K H' v d
  | .none, _, .non => .non
  | .bool _, _, .bl b => .bl b
  | .int _, _, .int i => .int i
  | .str _, _, .str x => .str x
  | .list ds, _, .lst h a => .lst (s.seq h) (dpAll_same s ds _ a)
  | .tuple ds, _, .tup h a => .tup (SqT.ext h s) (dpAll_same s ds _ a)
theorem dpAll_same {K : PySem.W.Frag} {H H' : Hp} (s : Same H H') : ∀ (ds : List PyData) (vs : List V), DpAll K H vs ds → DpAll K H' vs ds
  | [], _, .nil => .nil
  | d :: ds, _, .cons h a => .cons (dp_same s d _ h) (dpAll_same s ds _ a)
end
def strsD (ws : List Str) : PyData := .list (ws.map PyData.str)
def intsD (ns : List Int) : PyData := .list (ns.map PyData.int)
theorem strsD_lay {ws : List Str} (h : ∀ x ∈ ws, Plain x) : (strsD ws).canLay0 = true := by simp [strsD, PyData.canLay0, layStrs ws h]
theorem intsD_lay (ns : List Int) : (intsD ns).canLay0 = true := by simp [intsD, PyData.canLay0, layInts]
theorem strsD_dep (ws : List Str) : (strsD ws).depth ≤ 3 := by
  have := depStrs ws
  simp only [strsD, PyData.depth]
  omega
theorem intsD_dep (ns : List Int) : (intsD ns).depth ≤ 3 := by
  have := depInts ns
  simp only [intsD, PyData.depth]
  omega
end TS
namespace TS
open PySem L2
section
variable {P : Program} {w : World} {K : PySem.W.Frag} {mg : Str → Option Value} {base : Heap}
/-- a block whose rest is read once, for all heaps of a kind -/
theorem pss_split {X : Cx} {st : Stmt} {sts : List Stmt} {D : Ends} {σ : St} {H : Hp} (φ : Hp → Prop) (h1 : ∃ tR, PSs X sts tR ∧ ∀ H1, φ H1 → tR D σ H1)
    (h2 : ∀ tR, PSs X sts tR → (∀ H1, φ H1 → tR D σ H1) → ∃ t, PSs X (st :: sts) t ∧ t D σ H) : ∃ t, PSs X (st :: sts) t ∧ t D σ H := by
  obtain ⟨tR, a, b⟩ := h1
  exact h2 tR a b
/-- the same, for all slots and heaps of a kind -/
theorem pss_split2 {X : Cx} {st : Stmt} {sts : List Stmt} {D : Ends} {σ : St} {H : Hp} (φ : St → Hp → Prop) (h1 : ∃ tR, PSs X sts tR ∧ ∀ σ1 H1, φ σ1 H1 → tR D σ1 H1)
    (h2 : ∀ tR, PSs X sts tR → (∀ σ1 H1, φ σ1 H1 → tR D σ1 H1) → ∃ t, PSs X (st :: sts) t ∧ t D σ H) : ∃ t, PSs X (st :: sts) t ∧ t D σ H := by
  obtain ⟨tR, a, b⟩ := h1
  exact h2 tR a b
/-! _law_tree -/
abbrev nmLTree : List Str := ["pool", "words", "digits", "deep", "part"]
theorem scLTree : FnScope nmLTree ["pool", "words", "digits", "deep"] (defScope sLTree) := ⟨rfl, rfl, rfl, by decide +kernel, rfl, by decide +kernel, by decide +kernel⟩
/-- the words and digits of which trees are made -/
structure Stock (H : Hp) (p lw lg : Addr) (ws : List Str) (ns : List Int) : Prop where
  hw : H lw = some (.lst (ws.map V.str))
  hg : H lg = some (.lst (ns.map V.int))
  nw : lw ≠ p
  ng : lg ≠ p
  w0 : 0 < ws.length
  w1 : ws.length ≤ 1000
  g0 : 0 < ns.length
  g1 : ns.length ≤ 1000
  ok : ∀ x ∈ ws, WordOk x
  dg : ∀ n ∈ ns, 0 ≤ n ∧ n ≤ 9
theorem Stock.off {H H' : Hp} {p lw lg : Addr} {ws : List Str} {ns : List Int} (h : Stock H p lw lg ws ns) (s : SameOff [p] H H') : Stock H' p lw lg ws ns :=
  ⟨s _ _ h.hw (by simpa using h.nw), s _ _ h.hg (by simpa using h.ng), h.nw, h.ng, h.w0, h.w1, h.g0, h.g1, h.ok, h.dg⟩
def spLTree (d : Nat) : Sp := fun vs H Q _ => ∃ (p lw lg : Addr) (ws : List Str) (ns : List Int) (deep : Nat), vs = [.ref p, .ref lw, .ref lg, .int deep] ∧ PoolAt H p ∧ Stock H p lw lg ws ns ∧ 1 ≤ deep ∧ deep ≤ d ∧
  ∀ (H' : Hp) (v : V) (t : Tr), PoolOff p H H' → TrAt H' v t → t.fine → t.deep ≤ deep → Q v H'
theorem none_ltree {f : Addr} {fd : FuncData} {k : Nat} : FnOk P w K mg base CX0 k f fd ["pool", "words", "digits", "deep"] (spLTree 0) := by
  have no : ∀ vs H Q E, ¬ spLTree 0 vs H Q E := fun vs H Q E h => by
    obtain ⟨p, lw, lg, ws, ns, deep, _, _, _, h1, h0, _⟩ := h
    omega
  exact ⟨fun vs H Q E h => absurd h (no vs H Q E), fun A outer s H args us vs Q E _ _ _ _ h => absurd h (no vs H Q E)⟩
theorem ok_ltree {n d : Nat} {f : Addr} {fd : FuncData} (F : Fun K "_law_tree" "_law_tree" sLTree f fd) (T : BltT mg) (U : BltU mg) (b : Binds K fd ["pool", "words", "digits", "deep"] []) (m : mg "_law_tree" = some (.ref f))
    (D1 : Has P w K mg base "_law_take" 1 ["pool", "bound"] spTake) (D2 : Has P w K mg base "_law_one" 2 ["pool", "things"] (spOne K)) (G : FnOk P w K mg base CX0 (n + 2) f fd ["pool", "words", "digits", "deep"] (spLTree d)) :
    FnOk P w K mg base CX0 (n + 3) f fd ["pool", "words", "digits", "deep"] (spLTree (d + 1)) := by
  obtain ⟨f1, fd1, m1, k1, b1, G1⟩ := D1
  obtain ⟨f2, fd2, m2, k2, b2, G2⟩ := D2
  refine F.ok scLTree (fun vs H Q E h => ?_) (fun cdv A outer s H vs Q E hr h => ?_)
  · obtain ⟨p, lw, lg, ws, ns, deep, rfl, _⟩ := h
    rfl
  obtain ⟨p, lw, lg, ws, ns, deep, rfl, hp, st, h1, hd, q⟩ := h
  have r1 : Room 1 _ := hr.mono (by omega)
  have r2 : Room 2 _ := hr.mono (by omega)
  have rest : ∀ H1, PoolOff p H H1 → spOne K [.ref p, .ref lw] H1 Q E0 := fun H1 s1 => by
    have st1 := st.off s1.1
    refine ⟨p, .ref lw, rfl, s1.2, .inl ⟨lw, _, rfl, st.nw, SqL.of st1.hw, by rw [List.length_map]; exact st.w0, by rw [List.length_map]; exact st.w1, fun H2 i v hv s2 => ?_⟩⟩
    rw [List.getElem?_map] at hv
    cases e : ws[i]? with
    | none =>
      rw [e] at hv
      cases hv
    | some x =>
      rw [e] at hv
      cases hv
      exact q H2 _ (.wd x) (s1.trans s2) (.wd x) (st.ok x (List.mem_of_getElem? e)) h1
  have digs : ∀ H1, PoolOff p H H1 → spOne K [.ref p, .ref lg] H1 Q E0 := fun H1 s1 => by
    have st1 := st.off s1.1
    refine ⟨p, .ref lg, rfl, s1.2, .inl ⟨lg, _, rfl, st.ng, SqL.of st1.hg, by rw [List.length_map]; exact st.g0, by rw [List.length_map]; exact st.g1, fun H2 i v hv s2 => ?_⟩⟩
    rw [List.getElem?_map] at hv
    cases e : ns[i]? with
    | none =>
      rw [e] at hv
      cases hv
    | some x =>
      rw [e] at hv
      cases hv
      exact q H2 _ (.num x) (s1.trans s2) (.num x) (st.dg x (List.mem_of_getElem? e)) h1
  refine pss_split (PoolOff p H) ?second fun tR hR rR => ?first
  case first =>
    refine ⟨_, pss_cons (ps_if (PW.pt (pw_and (pt_cmpR op_gt (pv 3) pe_int (nomark _)) (pw_and1 (pt_cmpR op_eq (pe_call G1 r1 rfl m1 k1 b1 .nil pass0 (pa_cons (pv 0) (pa_cons pe_int pa_nil))) pe_int (nomark _)))))
      (pss_one (ps_ret (pe_callTy call_tuple_of (by rfl) T.tup (by decide +kernel) (pa_cons
        (pe_lc (own := [("part", 4)]) (g := gName 4) (tt := tYes) (by rfl) scLTree.nd (pi_range1 rfl U.range (pa_cons pe_int pa_nil)) (blkOk_by (own := [("part", 4)]) (N := nmLTree) (sc := defScope sLTree) (by decide +kernel)) (fun _ _ _ _ _ => pg_name (i := 4) scLTree.nd rfl (Or.inl rfl)) (fun _ _ _ _ _ => pts_nil)
          (fun _ _ _ _ _ => pe_call G hr rfl m F.kp b .nil pass0 (pa_cons (pv 0) (pa_cons (pv 1) (pa_cons (pv 2) (pa_cons (pe_op op_sub (pv 3) pe_int) pa_nil)))))) pa_nil)))) pss_nil) hR, ?_⟩
    refine ⟨_, rfl, _, _, rfl, rfl, _, rfl, ?_⟩
    refine ite2 (fun c => ?_) (fun c => ?_)
    · have c := of_decide_eq_true c
      obtain ⟨x, y, ep, x0, y0, y1⟩ := id hp
      refine ⟨_, rfl, p, x, y, 3, rfl, ep, x0, y0, y1, by decide, by decide, fun r x' y' _ _ a1 a2 a3 => ?_⟩
      have s1 : PoolOff p H (upd H p (.lst [.int x', .int y'])) := pool_upd a1 a2 a3
      generalize upd H p (.lst [.int x', .int y']) = H1 at s1
      refine ⟨rfl, _, rfl, ?_⟩
      refine ite2 (fun c1 => ?_) (fun c1 => ?_)
      · refine ⟨4, rfl, by decide, by decide, fun D hD => lc_poolR (R := fun _ G y => ∃ t : Tr, TrAt G y t ∧ t.fine ∧ t.deep + 1 ≤ deep) s1.2 hD (by decide) (fun _ => rfl) (fun i H2 R hi s2 hL hG => ?_) (fun H2 ys s2 d2 l2 hR => ?_)⟩
        · refine ⟨_, rfl, _, rfl, _, rfl, _, rfl, _, _, rfl, rfl, p, lw, lg, ws, ns, deep - 1, ?_, s2.2, st.off (s1.trans s2).1, by omega, by omega, fun H3 v t s3 ht hf hdd => ?_⟩
          · have e : ((deep : Int) - 1) = ((deep - 1 : Nat) : Int) := by omega
            show [V.ref p, V.ref lw, V.ref lg, V.int ((deep : Int) - 1)] = _
            rw [e]
          · have L3 : Lists [p, D] H3 := fun B mB => by
              simp only [List.mem_cons, List.not_mem_nil, or_false] at mB
              rcases mB with rfl | rfl
              · exact s3.2.lst
              · obtain ⟨zs, hz⟩ := hL B (by simp)
                exact ⟨zs, s3.1 _ _ hz (by simpa using s1.2.ne hD)⟩
            exact hG v H3 s3 fun H4 s4 => ⟨t, ht.off s4 L3, hf, by omega⟩
        · match ys, l2 with
          | [y0, y1, y2, y3], _ =>
            obtain ⟨t0, a0, f0, e0⟩ := hR 0 y0 rfl
            obtain ⟨t1, a1, f1, e1⟩ := hR 1 y1 rfl
            obtain ⟨t2, a2, f2, e2⟩ := hR 2 y2 rfl
            obtain ⟨t3, a3, f3, e3⟩ := hR 3 y3 rfl
            refine ⟨D, _, rfl, .inl ⟨SqL.of d2, fun l hl => ?_⟩⟩
            have g : Same H2 (upd H2 l (.tup [y0, y1, y2, y3])) := same_upd hl _
            refine q _ _ (.ch t0 t1 t2 t3) ((s1.trans s2).trans ⟨Same.off g, s2.2.same g⟩) (.ch upd_same (a0.same g) (a1.same g) (a2.same g) (a3.same g)) ⟨f0, f1, f2, f3⟩ ?_
            simp only [Tr.deep]
            omega
      · exact rR H1 s1
    · exact rR H ⟨SameOff.refl _ _, hp⟩
  case second =>
    refine ⟨_, pss_cons (ps_if (PW.pt (pw_and (pt_cmpR (op_neD hr.units) (pv 2) (pe_lst pa_nil) (nomark _)) (pw_and1 (pt_cmpR op_eq (pe_call G1 r1 rfl m1 k1 b1 .nil pass0 (pa_cons (pv 0) (pa_cons pe_int pa_nil))) pe_int (nomark _)))))
      (pss_one (ps_ret (pe_call G2 r2 rfl m2 k2 b2 .nil pass0 (pa_cons (pv 0) (pa_cons (pv 2) pa_nil))))) pss_nil)
    (pss_one (ps_ret (pe_call G2 r2 rfl m2 k2 b2 .nil pass0 (pa_cons (pv 0) (pa_cons (pv 1) pa_nil))))), fun H1 s1 => ?_⟩
    have st1 := st.off s1.1
    refine ⟨_, rfl, by show 0 ≤ sizeLine; decide, fun l hl => ?_⟩
    have g : Same H1 (upd H1 l (.lst [])) := same_upd hl _
    have s2 : PoolOff p H (upd H1 l (.lst [])) := s1.trans ⟨Same.off g, s1.2.same g⟩
    refine ⟨intsD ns, .list [], .lst (SqL.of (g _ _ st1.hg)) (dpInts ns), .lst (SqL.of upd_same) .nil, shaped_mk (intsD_lay ns) (Nat.le_trans (intsD_dep ns) (by decide)), by decide +kernel, _, rfl, ?_⟩
    have e : PyData.eqv (intsD ns) (.list []) = false := by
      have := st.g0
      cases ns with
      | nil => simp at this
      | cons n ns => simp [intsD, PyData.eqv, PyData.eqvAll]
    rw [e]
    generalize upd H1 l (.lst []) = H2 at s2
    obtain ⟨x, y, ep, x0, y0, y1⟩ := id s2.2
    refine iteT ⟨_, rfl, p, x, y, 3, rfl, ep, x0, y0, y1, by decide, by decide, fun r x' y' _ _ a1 a2 a3 => ?_⟩
    have s3 : PoolOff p H2 (upd H2 p (.lst [.int x', .int y'])) := pool_upd a1 a2 a3
    generalize upd H2 p (.lst [.int x', .int y']) = H3 at s3
    refine ⟨rfl, _, rfl, ?_⟩
    refine ite2 (fun c1 => ?_) (fun c1 => ?_)
    · exact ⟨_, rfl, _, rfl, digs H3 (s2.trans s3)⟩
    · exact ⟨_, rfl, _, rfl, rest H3 (s2.trans s3)⟩
end
end TS
namespace TS
open PySem L2
section
variable {P : Program} {w : World} {K : PySem.W.Frag} {mg : Str → Option Value} {base : Heap}
/-! _law_tree_text -/
abbrev nmLText : List Str := ["tree", "near", "far", "yes", "no", "part"]
theorem scLText : FnScope nmLText ["tree"] (defScope sLText) := ⟨rfl, rfl, rfl, by decide +kernel, rfl, by decide +kernel, by decide +kernel⟩
theorem text_plus (a b c d : Tr) : ("(" : Str) ++ a.text ++ "=" ++ b.text ++ "?" ++ c.text ++ ":" ++ d.text ++ ")" = (Tr.ch a b c d).text := by
  apply str_ext
  have e2 : ("(" : Str).cps.toList = [40] := by decide +kernel
  have e3 : ("=" : Str).cps.toList = [61] := by decide +kernel
  have e4 : ("?" : Str).cps.toList = [63] := by decide +kernel
  have e5 : (":" : Str).cps.toList = [58] := by decide +kernel
  have e6 : (")" : Str).cps.toList = [41] := by decide +kernel
  rw [codes_ch]
  simp only [codes_append, e2, e3, e4, e5, e6, List.append_assoc, List.nil_append, List.cons_append]
theorem ok_ltext {n : Nat} {f : Addr} {fd : FuncData} (F : Fun K "_law_tree_text" "_law_tree_text" sLText f fd) (T : BltT mg) (b : Binds K fd ["tree"] []) (m : mg "_law_tree_text" = some (.ref f)) (G : FnOk P w K mg base CX0 n f fd ["tree"] (spText n)) :
    FnOk P w K mg base CX0 (n + 1) f fd ["tree"] (spText (n + 1)) := by
  refine F.ok scLText (fun vs H Q E h => ?_) (fun cdv A outer s H vs Q E hr h => ?_)
  · obtain ⟨v, t, rfl, _⟩ := h
    rfl
  obtain ⟨v, t, rfl, ht, hsm, hd, hlen, q⟩ := h
  refine ⟨_, pss_cons (ps_if (pt_val (pe_callB call_isi (by rfl) T.isi bIsi (pa_cons (pv 0) (pa_cons (pe_bltn (by rfl) T.tup (v := .ty "tuple") (by decide +kernel) rfl) pa_nil))))
      (pss_cons (ps_asg (pe_lc (own := [("part", 5)]) (g := gName 5) (tt := tYes) (by rfl) scLText.nd (pi_tup (pv 0)) (blkOk_by (own := [("part", 5)]) (N := nmLText) (sc := defScope sLText) (by decide +kernel)) (fun _ _ _ _ _ => pg_name (i := 5) scLText.nd rfl (Or.inl rfl)) (fun _ _ _ _ _ => pts_nil)
        (fun _ _ _ _ _ => pe_call G hr rfl m F.kp b .nil pass0 (pa_cons (pv 5) pa_nil)))
      (pg_lst (by rfl) (pgs_cons (pg_name (i := 1) scLText.nd rfl (.inl rfl)) (pgs_cons (pg_name (i := 2) scLText.nd rfl (.inl rfl)) (pgs_cons (pg_name (i := 3) scLText.nd rfl (.inl rfl)) (pgs_cons (pg_name (i := 4) scLText.nd rfl (.inl rfl)) pgs_nil))))))
      (pss_one (ps_ret (pe_op op_add_str (pe_op op_add_str (pe_op op_add_str (pe_op op_add_str (pe_op op_add_str (pe_op op_add_str (pe_op op_add_str (pe_op op_add_str pe_str (pv 1)) pe_str) (pv 2)) pe_str) (pv 3)) pe_str) (pv 4)) pe_str)))) pss_nil)
    (pss_one (ps_ret (pe_callTy (cr_or call_str_int SkE.call_str_str) (by rfl) T.str (by decide +kernel) (pa_cons (pv 0) pa_nil)))), ?_⟩
  obtain ⟨u, c, hty, hk, hc⟩ := isT (K := K) ht
  refine ⟨_, rfl, _, _, _, _, _, rfl, .ty "tuple", hty, hk, _, rfl, ?_⟩
  rcases hc with ⟨rfl, a, b', c, d, rfl⟩ | ⟨rfl, hc⟩
  · refine iteT ?_
    cases ht with
    | ch hp ha hb hc hdd =>
      rename_i p y0 y1 y2 y3
      have tl := text_len hlen
      have dd : a.deep ≤ n ∧ b'.deep ≤ n ∧ c.deep ≤ n ∧ d.deep ≤ n := by
        simp only [Tr.deep] at hd
        omega
      obtain ⟨s1, s2, s3, s4⟩ := hsm
      refine ⟨_, rfl, p, rfl, ⟨_, SqT.of hp⟩, fun D hD => lc_mapT (ys := [.str a.text, .str b'.text, .str c.text, .str d.text]) hp rfl (by show 4 ≤ 1000; decide) hD (fun _ => rfl) (fun i x y H1 R hx hy s1' hR => ?_) (fun H1 g1 hD1 => ?_)⟩
      · refine ⟨_, rfl, ?_⟩
        rcases i with _ | _ | _ | _ | i
        · cases hx
          cases hy
          exact ⟨_, a, rfl, ha.same s1', s1, dd.1, by omega, hR⟩
        · cases hx
          cases hy
          exact ⟨_, b', rfl, hb.same s1', s2, dd.2.1, by omega, hR⟩
        · cases hx
          cases hy
          exact ⟨_, c, rfl, hc.same s1', s3, dd.2.2.1, by omega, hR⟩
        · cases hx
          cases hy
          exact ⟨_, d, rfl, hdd.same s1', s4, dd.2.2.2, by omega, hR⟩
        · simp at hx
      · have e2 : ("(" : Str).length = 1 := by decide +kernel
        have e3 : ("=" : Str).length = 1 := by decide +kernel
        have e4 : ("?" : Str).length = 1 := by decide +kernel
        have e5 : (":" : Str).length = 1 := by decide +kernel
        have e6 : (")" : Str).length = 1 := by decide +kernel
        have big : 100000 ≤ sizeLine := by decide
        have L : ∀ {k : Nat}, k ≤ 100000 → k ≤ sizeLine := fun h => Nat.le_trans h big
        refine ⟨D, _, rfl, SqL.of hD1, rfl, ?_⟩
        refine ⟨_, _, rfl, _, _, rfl, _, _, rfl, _, _, rfl, rfl, ?_⟩
        refine ⟨_, rfl, _, _, rfl, rfl, L (by omega), _, _, rfl, rfl, L (by simp only [Str.length_append]; omega), _, rfl, _, _, rfl, rfl, L (by simp only [Str.length_append]; omega), _, _, rfl, rfl, L (by simp only [Str.length_append]; omega), _, rfl, _, _, rfl, rfl, L (by simp only [Str.length_append]; omega), _, _, rfl, rfl, L (by simp only [Str.length_append]; omega), _, rfl, _, _, rfl, rfl, L (by simp only [Str.length_append]; omega), _, _, rfl, rfl, L (by simp only [Str.length_append]; omega), ?_⟩
        have q1 := q H1 g1
        rw [← text_plus] at q1
        exact q1
  · refine iteF ?_
    rcases hc with ⟨k, rfl, rfl⟩ | ⟨x, rfl, rfl⟩
    · refine ⟨_, rfl, .inl ⟨k, rfl, ?_, q H (Same.refl H)⟩⟩
      have z : k.natAbs ≤ 9 := by
        have := hsm.1
        have := hsm.2
        omega
      exact Nat.lt_of_le_of_lt (Nat.log2_le_self _) (by omega)
    · exact ⟨_, rfl, .inr ⟨x, rfl, q H (Same.refl H)⟩⟩
end
end TS
namespace TS
open PySem L2
abbrev sValue : Stmt := top 25
abbrev sLWorth : Stmt := top 38
/-- what a tree is worth -/
def Tr.worth (ρ : Str → Int) : Tr → Int
  | .num n => n
  | .wd x => ρ x
  | .ch a b c d => if a.worth ρ = b.worth ρ then c.worth ρ else d.worth ρ
/-- a dict's value at a text -/
abbrev atS (kvs : List (Key × V)) (x : Str) : Option V := valV kvs (Sum.inr x)
theorem dget_s {H : Hp} {d : Addr} {kvs : List (Key × V)} {x : Str} {o : Option V} (h : Rd H d (.dK kvs)) (e : atS kvs x = o) : DGet H d (.str x) o := e ▸ .inl ⟨kvs, Sum.inr x, h, rfl, rfl⟩
theorem words_ch {a b c d : Tr} {φ : Str → Prop} (h : ∀ x ∈ (Tr.ch a b c d).words, φ x) : (∀ x ∈ a.words, φ x) ∧ (∀ x ∈ b.words, φ x) ∧ (∀ x ∈ c.words, φ x) ∧ (∀ x ∈ d.words, φ x) := by
  simp only [Tr.words, List.mem_append, List.not_mem_nil, or_false] at h
  exact ⟨fun x m => h x (.inl m), fun x m => h x (.inr (.inl m)), fun x m => h x (.inr (.inr (.inl m))), fun x m => h x (.inr (.inr (.inr m)))⟩
def spVal (n : Nat) : Sp := fun vs H Q _ => ∃ (v : V) (t : Tr) (d : Addr) (kvs : List (Key × V)) (ρ : Str → Int), vs = [v, .ref d] ∧ TrAt H v t ∧ t.deep ≤ n ∧ H d = some (.dK kvs) ∧ (∀ x ∈ t.words, atS kvs x = some (.int (ρ x))) ∧ Q (.int (t.worth ρ)) H
section
variable {P : Program} {w : World} {K : PySem.W.Frag} {mg : Str → Option Value} {base : Heap}
theorem isStr {H : Hp} {v : V} {t : Tr} (h : TrAt H v t) : ∃ (u : Value) (b c : Bool), TyX K H v u ∧ PySem.W.kitOne K u (.type "str") = some b ∧ PySem.W.kitOne K u (.type "tuple") = some c ∧
    ((b = true ∧ c = false ∧ ∃ x, v = .str x ∧ t = .wd x) ∨ (b = false ∧ c = false ∧ ∃ n, v = .int n ∧ t = .num n) ∨ (b = false ∧ c = true ∧ ∃ p u v' y z a b c d, v = .ref p ∧ t = .ch a b c d ∧ H p = some (.tup [u, v', y, z]) ∧ TrAt H u a ∧ TrAt H v' b ∧ TrAt H y c ∧ TrAt H z d)) := by
  cases h with
  | num n => exact ⟨_, false, false, .base (.int n), kit_ty (by decide +kernel), kit_ty (by decide +kernel), .inr (.inl ⟨rfl, rfl, n, rfl, rfl⟩)⟩
  | wd x => exact ⟨_, true, false, .base (.str x), kit_ty (by decide +kernel), kit_ty (by decide +kernel), .inl ⟨rfl, rfl, x, rfl, rfl⟩⟩
  | ch h ha hb hc hd => exact ⟨_, false, true, .base (.tup h), kit_ty (by decide +kernel), kit_ty (by decide +kernel), .inr (.inr ⟨rfl, rfl, _, _, _, _, _, _, _, _, _, rfl, rfl, h, ha, hb, hc, hd⟩)⟩
theorem none_val {f : Addr} {fd : FuncData} {k : Nat} {ps : List Str} : ps.length = 2 → FnOk P w K mg base CX0 k f fd ps (spVal 0) := by
  intro _
  have no : ∀ vs H Q E, ¬ spVal 0 vs H Q E := fun vs H Q E h => by
    obtain ⟨v, t, d, kvs, ρ, _, _, hd, _⟩ := h
    have z := t.deep_pos
    omega
  exact ⟨fun vs H Q E h => absurd h (no vs H Q E), fun A outer s H args us vs Q E _ _ _ _ h => absurd h (no vs H Q E)⟩
abbrev nmValue : List Str := ["tree", "values", "one", "other", "same", "unlike"]
theorem scValue : FnScope nmValue ["tree", "values"] (defScope sValue) := ⟨rfl, rfl, rfl, by decide +kernel, rfl, by decide +kernel, by decide +kernel⟩
theorem ok_value {n : Nat} {f : Addr} {fd : FuncData} (F : Fun K "_value_of" "_value_of" sValue f fd) (T : BltT mg) (b : Binds K fd ["tree", "values"] []) (m : mg "_value_of" = some (.ref f)) (G : FnOk P w K mg base CX0 n f fd ["tree", "values"] (spVal n)) :
    FnOk P w K mg base CX0 (n + 1) f fd ["tree", "values"] (spVal (n + 1)) := by
  refine F.ok scValue (fun vs H Q E h => ?_) (fun cdv A outer s H vs Q E hr h => ?_)
  · obtain ⟨v, t, d, kvs, ρ, rfl, _⟩ := h
    rfl
  obtain ⟨v, t, d, kvs, ρ, rfl, ht, hd, hD, hw, q⟩ := h
  have hu := hu_of hr
  refine ⟨_, pss_cons (ps_if (pt_val (pe_callB call_isi (by rfl) T.isi bIsi (pa_cons (pv 0) (pa_cons (pe_bltn (by rfl) T.str (v := .ty "str") (by decide +kernel) rfl) pa_nil)))) (pss_one (ps_ret (pe_dget hu (pv 1) (pv 0) (fun _ _ => rfl)))) pss_nil)
    (pss_cons (ps_if (pt_not (pt_val (pe_callB call_isi (by rfl) T.isi bIsi (pa_cons (pv 0) (pa_cons (pe_bltn (by rfl) T.tup (v := .ty "tuple") (by decide +kernel) rfl) pa_nil))))) (pss_one (ps_ret (pv 0))) pss_nil)
    (pss_cons (ps_asg (pv 0) (pg_tup (by rfl) (pgs_cons (pg_name (i := 2) scValue.nd rfl (.inl rfl)) (pgs_cons (pg_name (i := 3) scValue.nd rfl (.inl rfl)) (pgs_cons (pg_name (i := 4) scValue.nd rfl (.inl rfl)) (pgs_cons (pg_name (i := 5) scValue.nd rfl (.inl rfl)) pgs_nil))))))
    (pss_cons (ps_if (pt_cmpR op_eq (pe_call G hr rfl m F.kp b .nil pass0 (pa_cons (pv 2) (pa_cons (pv 1) pa_nil))) (pe_call G hr rfl m F.kp b .nil pass0 (pa_cons (pv 3) (pa_cons (pv 1) pa_nil))) (nomark _)) (pss_one (ps_ret (pe_call G hr rfl m F.kp b .nil pass0 (pa_cons (pv 4) (pa_cons (pv 1) pa_nil))))) pss_nil)
    (pss_one (ps_ret (pe_call G hr rfl m F.kp b .nil pass0 (pa_cons (pv 5) (pa_cons (pv 1) pa_nil)))))))), ?_⟩
  obtain ⟨u, c1, c2, hty, k1, k2, hc⟩ := isStr (K := K) ht
  refine ⟨_, rfl, _, _, _, _, _, rfl, .ty "str", hty, k1, _, rfl, ?_⟩
  rcases hc with ⟨rfl, rfl, x, rfl, rfl⟩ | ⟨rfl, rfl, k, rfl, rfl⟩ | ⟨rfl, rfl, p, y0, y1, y2, y3, a, b', c, d', rfl, rfl, hp, ha, hb, hc, hdd⟩
  · refine iteT ⟨_, rfl, _, rfl, d, _, rfl, dget_s (.inl hD) (hw x (by simp [Tr.words])), q⟩
  · refine iteF ⟨_, rfl, _, _, _, _, _, rfl, .ty "tuple", hty, k2, _, rfl, iteT ⟨_, rfl, q⟩⟩
  · refine iteF ⟨_, rfl, _, _, _, _, _, rfl, .ty "tuple", hty, k2, _, rfl, iteF ?_⟩
    have dd : a.deep ≤ n ∧ b'.deep ≤ n ∧ c.deep ≤ n ∧ d'.deep ≤ n := by
      simp only [Tr.deep] at hd
      omega
    obtain ⟨w1, w2, w3, w4⟩ := words_ch hw
    refine ⟨_, rfl, p, _, rfl, SqT.of hp, rfl, _, _, rfl, _, _, rfl, _, _, rfl, _, _, rfl, rfl, ?_⟩
    refine ⟨_, rfl, _, rfl, y0, a, d, kvs, ρ, rfl, ha, dd.1, hD, w1, _, rfl, _, rfl, y1, b', d, kvs, ρ, rfl, hb, dd.2.1, hD, w2, rfl, _, rfl, ?_⟩
    simp only [Tr.worth] at q
    refine ite2 (fun e => ?_) (fun e => ?_)
    · have e := of_decide_eq_true e
      rw [if_pos (V.int.inj e)] at q
      exact ⟨_, rfl, _, rfl, y2, c, d, kvs, ρ, rfl, hc, dd.2.2.1, hD, w3, q⟩
    · have e : ¬ a.worth ρ = b'.worth ρ := fun z => e (decide_eq_true (congrArg V.int z))
      rw [if_neg e] at q
      exact ⟨_, rfl, _, rfl, y3, d', d, kvs, ρ, rfl, hdd, dd.2.2.2, hD, w4, q⟩
abbrev nmLWorth : List Str := ["tree", "held", "near", "far"]
theorem scLWorth : FnScope nmLWorth ["tree", "held"] (defScope sLWorth) := ⟨rfl, rfl, rfl, by decide +kernel, rfl, by decide +kernel, by decide +kernel⟩
theorem ok_lworth {n : Nat} {f : Addr} {fd : FuncData} (F : Fun K "_law_tree_worth" "_law_tree_worth" sLWorth f fd) (T : BltT mg) (b : Binds K fd ["tree", "held"] []) (m : mg "_law_tree_worth" = some (.ref f)) (G : FnOk P w K mg base CX0 n f fd ["tree", "held"] (spVal n)) :
    FnOk P w K mg base CX0 (n + 1) f fd ["tree", "held"] (spVal (n + 1)) := by
  refine F.ok scLWorth (fun vs H Q E h => ?_) (fun cdv A outer s H vs Q E hr h => ?_)
  · obtain ⟨v, t, d, kvs, ρ, rfl, _⟩ := h
    rfl
  obtain ⟨v, t, d, kvs, ρ, rfl, ht, hd, hD, hw, q⟩ := h
  have hu := hu_of hr
  refine ⟨_, pss_cons (ps_if (pt_val (pe_callB call_isi (by rfl) T.isi bIsi (pa_cons (pv 0) (pa_cons (pe_bltn (by rfl) T.tup (v := .ty "tuple") (by decide +kernel) rfl) pa_nil))))
      (pss_cons (ps_par (i := 2) (j := 3) (by rfl) scLWorth.nd rfl rfl (by decide) rfl rfl (pa_cons (pe_call G hr rfl m F.kp b .nil pass0 (pa_cons (pe_ix ix_tup (pv 0) pe_int (fun _ _ => rfl)) (pa_cons (pv 1) pa_nil))) (pa_cons (pe_call G hr rfl m F.kp b .nil pass0 (pa_cons (pe_ix ix_tup (pv 0) pe_int (fun _ _ => rfl)) (pa_cons (pv 1) pa_nil))) pa_nil)) (by rfl))
      (pss_one (ps_ret (pe_call G hr rfl m F.kp b .nil pass0 (pa_cons (pe_ifExp (pt_cmpR op_eq (pv 2) (pv 3) (nomark _)) (pe_ix ix_tup (pv 0) pe_int (fun _ _ => rfl)) (pe_ix ix_tup (pv 0) pe_int (fun _ _ => rfl))) (pa_cons (pv 1) pa_nil)))))) pss_nil)
    (pss_one (ps_ret (pe_ifExp (pt_val (pe_callB call_isi (by rfl) T.isi bIsi (pa_cons (pv 0) (pa_cons (pe_bltn (by rfl) T.str (v := .ty "str") (by decide +kernel) rfl) pa_nil)))) (pe_dget hu (pv 1) (pv 0) (fun _ _ => rfl)) (pv 0)))), ?_⟩
  obtain ⟨u, c1, c2, hty, k1, k2, hc⟩ := isStr (K := K) ht
  refine ⟨_, rfl, _, _, _, _, _, rfl, .ty "tuple", hty, k2, _, rfl, ?_⟩
  rcases hc with ⟨rfl, rfl, x, rfl, rfl⟩ | ⟨rfl, rfl, k, rfl, rfl⟩ | ⟨rfl, rfl, p, y0, y1, y2, y3, a, b', c, d', rfl, rfl, hp, ha, hb, hc, hdd⟩
  · refine iteF ⟨_, rfl, _, _, _, _, _, rfl, .ty "str", hty, k1, _, rfl, iteT ⟨_, rfl, _, rfl, d, _, rfl, dget_s (.inl hD) (hw x (by simp [Tr.words])), q⟩⟩
  · refine iteF ⟨_, rfl, _, _, _, _, _, rfl, .ty "str", hty, k1, _, rfl, iteF ⟨_, rfl, q⟩⟩
  · refine iteT ?_
    have dd : a.deep ≤ n ∧ b'.deep ≤ n ∧ c.deep ≤ n ∧ d'.deep ≤ n := by
      simp only [Tr.deep] at hd
      omega
    obtain ⟨w1, w2, w3, w4⟩ := words_ch hw
    refine ⟨_, rfl, p, _, _, _, rfl, rfl, SqT.of hp, atI_nat (j := 0) rfl, _, rfl, y0, a, d, kvs, ρ, rfl, ha, dd.1, hD, w1, ?_⟩
    refine ⟨_, rfl, p, _, _, _, rfl, rfl, SqT.of hp, atI_nat (j := 1) rfl, _, rfl, y1, b', d, kvs, ρ, rfl, hb, dd.2.1, hD, w2, _, _, rfl, ?_⟩
    refine ⟨_, rfl, _, rfl, rfl, _, rfl, ?_⟩
    simp only [Tr.worth] at q
    refine ite2 (fun e => ?_) (fun e => ?_)
    · have e := of_decide_eq_true e
      rw [if_pos (V.int.inj e)] at q
      exact ⟨_, rfl, p, _, _, _, rfl, rfl, SqT.of hp, atI_nat (j := 2) rfl, _, rfl, y2, c, d, kvs, ρ, rfl, hc, dd.2.2.1, hD, w3, q⟩
    · have e : ¬ a.worth ρ = b'.worth ρ := fun z => e (decide_eq_true (congrArg V.int z))
      rw [if_neg e] at q
      exact ⟨_, rfl, p, _, _, _, rfl, rfl, SqT.of hp, atI_nat (j := 3) rfl, _, rfl, y3, d', d, kvs, ρ, rfl, hdd, dd.2.2.2, hD, w4, q⟩
end
end TS
namespace TS
open PySem PySem.Spec PyProof.Rows PySem.W PySem.Calls L2
/-- what __init__(self, x) of an own error promises: the object gets its dict with one attribute -/
def spIni (C : Addr) (fld : Str) : Sp := fun vs H Q _ => ∃ (a : Addr) (v : V), vs = [.ref a, v] ∧ H a = some (exo a C none) ∧
  ∀ dx, H dx = none → dx ≠ a → Q .non (upd (upd H dx (exd dx [(fld, v)])) a (exo a C (some dx)))
/-- a def's scope by its names -/
abbrev fscope (names : List (Str × NameKind)) : Scope := { kind := .function, names := names, isGenerator := false, isCoroutine := false, more := [] }
/-- super().__init__(text) -/
abbrev supX (msg : Str) (kk : Nat) (p0 p1 p2 p3 p4 : Pos) : Expr := .Call (.Attribute (.Call (.Name "super" p0) [] [] p1) "__init__" p2) [.Constant (.str msg) kk p3] [] p4
/-- its evaluation, as the positions allow it -/
def SupOk (msg : Str) (kk : Nat) (p0 p1 p2 p3 p4 : Pos) : Prop := ∀ env : Env, ∃ pl : Sem Bool, eval (supX msg kk p0 p1 p2 p3 p4) env = (do
  let ov ← attributeBase (.Call (.Name "super" p0) [] [] p1) "__init__" env (eval (.Call (.Name "super" p0) [] [] p1) env)
  standAt p2.atName
  let (f, first) ← holding [ov] (getMethod ov "__init__" pl)
  callWith p4 f first (backTo p4 (starEach [.Constant (.str msg) kk p3] env)) [])
/-- what is known of a built-in error's __init__ -/
structure IniF (B initId : String) : Prop where
  plain : plainId initId = true
  entry : entryFor table initId = some Builtin.«BaseException.__init__»
  kind : builtinKind initId = some .slot
  row : Manifest.signature? initId = some ⟨.positional, "*", B, .self, [⟨"args", .varPos, false⟩]⟩
  noStar : (B != "*") = true
  KF : KxsFacts B initId
theorem IniF.of {B newId initId : String} (F : ExcCallFacts B newId initId) (k : KxsFacts B initId) : IniF B initId := ⟨F.init.plain, F.initEntry, F.initKind, F.initRow, F.noStar, k⟩
theorem check_b {M : Model} {A : Around} {E : Value → Shared → Prop} {h : Heap} {g : Array GenState} {d : Drawn} {t : Nat} {os : OsState} {B initId newId : String} (F : IniF B initId) {nm q : Str} {C N e : Addr} {oe : Obj} {bs bm : List Value} {hdct : Bool} {sn : List Str} {sub : List Value} {ab : Bool} {col : Option Bool} {dd : Option Addr} {k0 k1 k2 k3 k5 : Option Value} {rest : List Value} {Q : Unit → Shared → Prop}
    (hC : h.get? C = some (excClassObj nm q C N bs bm hdct sn sub ab col dd k0 k1 k2 k3 k5 newId)) (he : h.get? e = some oe) (hcls : oe.cls = .ref C) (hq : Q () ⟨h, g, d, t, os⟩) : wpAny M A (checkBoundCall initId ⟨.ref e :: rest, []⟩) Q E ⟨h, g, d, t, os⟩ := by
  have hst := F.noStar
  simp only [checkBoundCall, F.kind, F.row]
  repeat (first
    | (with_reducible refine wpAny_loadPart_at he ?_; rw [hcls])
    | with_reducible refine wpAny_loadPart_at hC ?_
    | wp_step)
  refine wpAny_onRaise ?_
  have z : ∀ (x y : String) (n : Nat), Bind.check ⟨.positional, "*", B, .self, [⟨"args", .varPos, false⟩]⟩ x y n (List.map (fun x => x.fst) ({ pos := Value.ref e :: rest } : Args).kw) = pure () := fun x y n => check_star_args _ _ _ _ _ _
  rw [z]
  exact wpAny_pure hq
/-- what the written part says of an own error's class, over the built-in B -/
structure ErrK (K : Frag) (C : Addr) (B newId initId : String) (bmB : List Value) : Prop where
  NF : ∃ (Bn iN : String) (bmN : List Value), ExcBaseFacts Bn newId iN bmN ∧ bmB.contains (.type Bn) = true
  noA : bmB.contains (.type "AttributeError") = false
  noN : bmB.contains (.type "NameError") = false
  IF : IniF B initId
  pass : ∀ self : Value, refuseLoop self "__setattr__" bmB = pure ()
  obj : bmB.contains (.type "object") = true
  cls : ∃ nm qn N bs bm sn sub ab col dd k0 k1 k2 k3 k5, K.lookup C = some (excClassObj nm qn C N bs bm true sn sub ab col dd k0 k1 k2 k3 k5 newId) ∧ excTail bmB bm = true
  sa : findIn K (.ref C) "__setattr__" = some (some (.builtin "object.__setattr__"))
  exC : subIn K (.ref C) (.type "BaseException") = some true
  tyC : typeIn K (.ref C) = some (.type "type")
  kC : keepIn K (.ref C) = true
open Builtin Builtin.ObjectAttr in
/-- self.name = v on an error that has no dict yet -/
theorem exc_put {prog : Program} {w : World} {A : Around} {R : Result → Shared → Prop} {hp : Heap} {g : Array GenState} {dr : Drawn} {t : Nat} {os : OsState} {K : Frag} {name : Str} {tk : Tok} {v : Value} {x C : Addr} {fv : Array Value} {nm qn : Str} {N : Addr} {bs bm sub : List Value} {sn : List Str} {ab : Bool} {col : Option Bool} {bmB : List Value}
    (X : K.In hp) (hx : hp.get? x = some { cls := .ref C, data := .fields fv }) (hm : excTail bmB bm = true) (hps : ∀ self : Value, refuseLoop self "__setattr__" bmB = pure ()) (hob : bmB.contains (.type "object") = true)
    (hcd : clsIn K C = some { name := nm, bases := bs, mro := .ref C :: bm, ns := N, qualname := qn, hasDict := true, slotNames := sn, subclasses := sub, abstract := ab, collection := col, hasDel := false })
    (ha : findIn K (.ref C) name = some none)
    (hq : ∀ h' tk' dx, (∀ b o, b ≠ x → hp.get? b = some o → h'.get? b = some o) → hp.objs.size ≤ dx → dx ≠ x → h'.get? x = some { cls := .ref C, dict := some dx, data := .fields fv } →
      h'.Ns1 dx (fun y => if y = name then some v else none) → R (.ok (.ret .none)) ⟨h', g, dr, tk', os⟩) :
    codeAny (model prog w) A (.call (.builtin "object.__setattr__") ⟨[.ref x, .str name tk, v], []⟩) R ⟨hp, g, dr, t, os⟩ := by
  have J : InstAt hp x { cls := .ref C, data := .fields fv } C none := ⟨hx, rfl, rfl, trivial⟩
  have hT : excTail bmB (.ref C :: bm) = true := hm
  have ob : (Value.ref C :: bm).contains (.type "object") = true := (excTail_contains "object" _ hT).trans hob
  have fresh : x ≠ hp.objs.size := Nat.ne_of_lt (Heap.lt_size hx)
  have isob : Looks (model prog w) hp (isInstance (.ref x) (.type "object")) true := J.type.andThen (looks_mroIn X (by
    unfold mroIn
    rw [hcd, Option.bind_some, if_neg (by simp), ob]))
  have SO := F.store_object
  refine codeAny_call_builtin SO.slot.plain SO.entry (@check_slot (model prog w) _ _ ⟨hp, g, dr, t, os⟩ "object.__setattr__" "object" "__setattr__" (.ref x) [.str name tk, v] [] _ SO.kind SO.split isob (SO.args (.ref x) (.str name tk) v) ?_)
  have Lm : Looks (model prog w) hp (mroOf (.ref C)) (.ref C :: bm) := (looks_clsIn X hcd).andThen .now
  have Ln : Looks (model prog w) hp (storeTaker? none) none := .now
  have Lc := looks_clsIn (M := model prog w) X hcd
  rw [osa_eq, refuse_eq]
  refine wpAny_bind (wpAny_bind (J.type.at (wpAny_bind (Lm.at ?_))))
  rw [excTail_pass _ (hps _) _ hT]
  refine wpAny_pure (wpAny_bind (J.type.at (wpAny_bind ((looks_findIn X ha).at (wpAny_bind (Ln.at ?_))))))
  show wpAny _ _ (storeInOwnDict (.ref x) (.ref C) (.str name tk) name v false) _ _ _
  unfold storeInOwnDict ownDictForStores
  repeat (first | with_reducible refine PySem.HandSPX.store_in_new ?_ ?_ | with_reducible refine wpAny_loadPart_at hx ?_ | with_reducible refine Lc.at ?_ | wp_step)
  · exact ⟨_, #[], _, (Heap.get?_update_ne _ _ _ _ fresh.symm).trans (Heap.get?_push_at rfl rfl), rfl, fun e he => absurd he (by simp), fun _ => rfl⟩
  · intro h' tk' hn' hs
    have hx1 : (hp.push { cls := .type "dict", data := .dict #[] }).get? x = some { cls := .ref C, data := .fields fv } := Heap.get?_push_of_some _ hx
    refine hq h' tk' hp.objs.size (fun b o hb z => ?_) (Nat.le_refl _) fresh.symm ?_ hn'
    · refine (hs.2 b (Nat.ne_of_lt (Heap.lt_size z))).trans ?_
      exact (Heap.get?_update_ne _ _ _ _ hb).trans (Heap.get?_push_of_some _ z)
    · exact (hs.2 x fresh).trans (Heap.get?_update_self _ hx1 rfl)
/-- what the written part says of an own error's __init__ with super().__init__(text) -/
structure IniTxt (K : Frag) (C cc cda : Addr) (qual : Str) (file : Str) (B initId : String) : Prop where
  hcode : ∃ ccl cdd vs ccs tf, K.lookup cda = some ⟨ccl, cdd, .fields vs, ccs⟩ ∧ vs[2]? = some (.str file tf)
  hcell : ∃ cl cld csl, K.lookup cc = some ⟨cl, cld, .cell (some (.ref C)), csl⟩
  hself : mroIn K C (.ref C) = some true
  hcd : codeIn K (.ref cda) qual = true
  ho : nsIn K cStatics "thirdparty.any" = some none
  hm : ks_superIn K C C "__init__" = some (some (.builtin initId))
  hB : subIn K (.ref C) (.type B) = some true
theorem fn_ini {P : Program} {w : World} {K : Frag} {mg : Str → Option Value} {base : Heap} {k : Nat} {f cc cda C : Addr} {qual fld msg arg file : Str} {params : Arguments} {names : List (Str × NameKind)} {dV kV doc pm ct oc : Value} {an od : Option Addr} {osl : Array (Option Value)}
    {p0 p1 p2 p3 p4 p5 p6 p7 p8 p9 : Pos} {kk : Nat} {ar : Arg} {B newId initId : String} {bmB : List Value}
    (T : ErrK K C B newId initId bmB) (Z : IniTxt K C cc cda qual file B initId) (SO : SupOk msg kk p0 p1 p2 p3 p4)
    (lk : K.lookup f = some ⟨oc, od, .func (ksFn "__init__" qual params
      [.Expr (supX msg kk p0 p1 p2 p3 p4) p5,
       .Assign [.Attribute (.Name "self" p6) fld p7] (.Name arg p8) p9] (fscope names) dV kV doc pm an (.ref cda) ct cc), osl⟩)
    (hfile : ((P.main.file : Str) == file) = true) (htop : (P.main.scope.names.lookup ("super" : Str)).isSome = false)
    (hsup : mg "super" = none) (hno : findIn K (.ref C) fld = some none)
    (hp : (params.posonlyargs ++ params.args).head? = some ar) (har : ar.arg = "self")
    (hks : names.lookup ("super" : Str) = some .globalImplicit) (hkc : names.lookup ("__class__" : Str) = some .free)
    (hka : names.lookup ("self" : Str) = some .local) (hkv : names.lookup arg = some .local)
    (hcell : ∀ x ∈ names, x.2 ≠ .cell)
    (hne : arg ≠ "self") (hdb : (arg == ("__debug__" : Str)) = false) :
    FnOk P w K mg base CX0 (k + 1) f (ksFn "__init__" qual params
      [.Expr (supX msg kk p0 p1 p2 p3 p4) p5,
       .Assign [.Attribute (.Name "self" p6) fld p7] (.Name arg p8) p9] (fscope names) dV kV doc pm an (.ref cda) ct cc) ["self", arg] (spIni C fld) := by
  refine ⟨fun vs H Q E h => ?_, fun A outer s H args us vs Q E hr e0 hb r hsp => ?_⟩
  · obtain ⟨a, v, rfl, _⟩ := h
    rfl
  obtain ⟨a, v, rfl, ea, q⟩ := hsp
  obtain ⟨u, rfl, rv⟩ : ∃ u, us = [Value.ref a, u] ∧ RelV v u := by
    cases r with
    | cons ra rr =>
      cases rr with
      | cons rb rc =>
        cases rc
        exact ⟨_, by rw [show _ = Value.ref a from ra], rb⟩
  have KX : K.In s.heap := e0.mod.kin.keeps fun b o e => (e0.bs b o e).1
  have lim : s.heap.NoLimit := e0.mod.nolimit.keeps fun b o e => (e0.bs b o e).1
  refine ks_codeAny_call_defAt (binds := [("self", Value.ref a), (arg, u)]) hr.depth (KX _ _ lk) rfl lim (codeRec_of KX Z.hcd) rfl hb hcell ?_ (fun h₁ hns hk₁ => ?_)
  · intro x hx
    rcases List.mem_cons.mp hx with rfl | hx
    · exact hka
    · rcases List.mem_cons.mp hx with rfl | hx
      · exact hkv
      · cases hx
  have X₁ : K.In h₁ := KX.keeps hk₁
  have bk : ∀ b o, base.get? b = some o → h₁.get? b = some o := fun b o e => hk₁ b o (e0.bs b o e).1
  obtain ⟨t1, hoa⟩ := exo_at e0.hok ea
  have ho1 := hk₁ _ _ hoa
  obtain ⟨nm, qn, N, bs, bm, sn, sub, ab, col, dd, k0, k1, k2, k3, k5, hC, hbm⟩ := T.cls
  obtain ⟨ccl, cdd, cvs, ccs, tf, hcode, hcvs⟩ := Z.hcode
  obtain ⟨cl, cld, csl, hcel⟩ := Z.hcell
  have hcl : clsIn K C = some { name := nm, bases := bs, mro := .ref C :: bm, ns := N, qualname := qn, hasDict := true, slotNames := sn, subclasses := sub, abstract := ab, collection := col, hasDel := false } := by
    unfold clsIn
    rw [hC] <;> rfl
  have mself : (fun x => ([("self", Value.ref a), (arg, u)] : List (Str × Value)).reverse.lookup x) "self" = some (Value.ref a) := by
    show List.lookup ("self" : Str) [(arg, u), ("self", Value.ref a)] = _
    rw [List.lookup_cons, show (("self" : Str) == arg) = false from by simpa using fun z : ("self" : Str) = arg => hne z.symm]
    simp [List.lookup]
  have marg : (fun x => ([("self", Value.ref a), (arg, u)] : List (Str × Value)).reverse.lookup x) arg = some u := by
    show List.lookup arg [(arg, u), ("self", Value.ref a)] = _
    simp [List.lookup]
  obtain ⟨mb, hmb, hboot⟩ := e0.mod.blt
  obtain ⟨pl, he⟩ := SO (callEnv (ksFn "__init__" qual params
      [.Expr (supX msg kk p0 p1 p2 p3 p4) p5,
       .Assign [.Attribute (.Name "self" p6) fld p7] (.Name arg p8) p9] (fscope names) dV kV doc pm an (.ref cda) ct cc) s.heap.objs.size f)
  refine ks_wpAt_execs_cons (ks_wpAt_Expr_any (ks_wpAt_MethodCall ?_ he))
  refine ks_wpAt_super_base (f := f) (cc := cda) (ar := ar) hks hkc (by decide) rfl (X₁ _ _ lk) rfl hp rfl (X₁ _ _ hcode) rfl hcvs hfile htop ?_
  refine ks_loadName_global rfl hks (loadGlobal_builtin (e0.mod.glob.keeps bk) hsup (hmb.keeps bk) ((hboot _ (by decide +kernel)).trans (by decide +kernel : bootBuiltins "super" = some (.type "super"))) ⟨rfl, ?_⟩)
  refine wpAny_loadName_free rfl hkc rfl ⟨_, X₁ _ _ hcel, rfl⟩ ?_
  rw [har]
  refine wpAny_loadName_local rfl hka hns mself ?_
  refine ks_wpAny_isType_cls (X₁ _ _ hC) rfl ⟨rfl, ?_⟩
  refine ks_wpAny_call_super (X₁ _ _ hC) rfl ho1 rfl (fun c z => by cases z) (looks_mroIn X₁ Z.hself) (fun h₂ hso hk₂ => ?_)
  have X₂ : K.In h₂ := X₁.keeps hk₂
  have hoa2 := hk₂ _ _ ho1
  have I2 : InstAt h₂ a { cls := .ref C, dict := none, data := .fields #[.ref t1, .none, .none, .none, .bool false, .none] } C none := ⟨hoa2, rfl, rfl, trivial⟩
  have hm := Z.hm
  unfold ks_superIn at hm
  rw [hcl, Option.bind_some] at hm
  have xC : a ≠ C := ks_ne X₂ I2 hcl
  refine kxs_getMethod T.IF.KF hso (looks_opaque X₂ Z.ho) (l₀ := .ref C :: bm) ((looks_clsIn X₂ hcl).andThen .now) rfl X₂ hm (I2.type.andThen (looks_subIn X₂ Z.hB)) xC (by decide) ?_
  refine kxs_callWith (i := initId) (x := a) rfl ?_
  show wpAny _ _ (evalArgs _ true [(false, eval (.Constant (.str msg) kk p3) _)] []) _ _ _
  refine evalArgs_plain (spliced_cons (Calls.Constant_str (spliced_nil ?_)))
  have hu3 : (h₂.push (kxs_mw initId a)).get? h₂.objs.size = some (kxs_mw initId a) := Heap.get?_push_at rfl rfl
  have hk₃ : ∀ b o, h₂.get? b = some o → (h₂.push (kxs_mw initId a)).get? b = some o := fun b o e => Heap.get?_push_of_some _ e
  refine ⟨hu3, ?_⟩
  refine wpAny_call (codeAny_of_tree ?_)
  show wpAny _ _ (callAny (.ref h₂.objs.size) _) _ _ _
  simp only [callAny]
  refine wpAny_bind (wpAny_load hu3 ?_)
  refine KFB.if_so (by first | rfl | simp [kxs_mw]) ?_
  refine wpAny_bind (check_b T.IF (hk₃ _ _ (X₂ _ _ hC)) (hk₃ _ _ hoa2) rfl ?_)
  refine wpAny_bind (wpAny_pure (wpAny_pure ?_))
  refine ⟨plainId_quiet T.IF.plain _, codeAny_builtin T.IF.entry ?_⟩
  refine exc_init_tree (cls := .ref C) (t0 := t1) (dv := none) (c2 := .none) (c3 := .none) (b4 := .bool false) (hk₃ _ _ hoa2) (by show 1 ≤ sizeLine; decide) fun h₄ hk₄ hx₄ _ => ?_
  have k14 : ∀ b o, b ≠ a → h₁.get? b = some o → h₄.get? b = some o := fun b o hb e => hk₄ b o hb (hk₃ b o (hk₂ b o e))
  have aL : a < s.heap.objs.size := Heap.lt_size hoa
  have hns4 : h₄.Ns s.heap.objs.size (fun x => ([("self", Value.ref a), (arg, u)] : List (Str × Value)).reverse.lookup x) := by
    obtain ⟨oL, es, ep, hL, rest⟩ := hns
    exact ⟨oL, es, ep, k14 _ _ (Nat.ne_of_gt aL) hL, rest⟩
  have X₄ : K.In h₄ := fun b o e => by
    refine k14 b o ?_ (X₁ b o e)
    rintro rfl
    have hbb := (e0.mod.kin b o e)
    have := (e0.bs b o hbb).2
    rw [ea] at this
    cases this
  refine ks_wpAt_execs_cons (ks_wpAt_Assign_Attr (wpAt_of_wpAny (wpAny_Name (wpAny_loadName_local rfl hkv hns4 marg ?_) hdb)))
  refine wpAny_Name (wpAny_loadName_local rfl hka hns4 mself ?_) (by decide)
  refine set_plain X₄ (ox := { cls := .ref C, dict := none, data := .fields #[.ref (h₂.push (kxs_mw initId a)).objs.size, .none, .none, .none, .bool false, .none] }) (od := none) ⟨hx₄, rfl, rfl, trivial⟩ T.sa ?_
  refine exc_put X₄ hx₄ hbm T.pass T.obj hcl hno (fun h₅ tk₅ dx hk₅ hdx hdxa hx₅ hn₅ => ?_)
  have L4 : s.heap.objs.size < h₄.objs.size := by
    obtain ⟨oL, es, ep, hL, rest⟩ := hns4
    exact Heap.lt_size hL
  have dge : s.heap.objs.size ≤ dx := Nat.le_trans (Nat.le_of_lt L4) hdx
  have hnd : H dx = none := e0.hok.fresh dge
  have k05 : ∀ b o, b ≠ a → s.heap.get? b = some o → h₅.get? b = some o := fun b o hb e => hk₅ b o hb (k14 b o hb (hk₁ b o e))
  have nd : ∀ {b : Addr} {o : Obj}, s.heap.get? b = some o → b ≠ dx := fun {b o} z => Nat.ne_of_lt (Nat.lt_of_lt_of_le (Heap.lt_size z) dge)
  have na : ∀ {b : Addr}, H b = none → b ≠ a := fun {b} n z => by
    rw [z, ea] at n
    cases n
  refine wpAt_of_wpAny (wpAny_pure ?_)
  refine ⟨V.non, upd (upd H dx (exd dx [(fld, v)])) a (exo a C (some dx)), rfl, e0.bare, ?_, ?_, rfl, q dx hnd hdxa⟩
  · exact {
      keep := fun b o z n _ _ => k05 b o (na n) z
      slot := fun b o z n _ _ => ⟨o.slots, k05 b o (na n) z⟩
      free := fun b o z n _ => by
        rw [upd_ne (na n), upd_ne (nd z)]
        exact n
      there := fun b o z _ => by
        by_cases hb : b = a
        · exact ⟨_, by rw [hb]; exact hx₅⟩
        · exact ⟨o, k05 b o hb z⟩
      tups := fun b xs z => by
        rw [upd_ne (at_ne ea z exo_tup), upd_ne (ne_of_none z hnd)]
        exact z
      frzs := fun b o y z => by
        rw [upd_ne (at_ne ea z exo_frz), upd_ne (ne_of_none z hnd)]
        exact z
      tbls := fun b ps z => ⟨#[], by
        rw [upd_ne (at_ne ea z exo_tbl), upd_ne (ne_of_none z hnd), z]
        simp⟩ }
  · intro b o z
    by_cases hb : b = a
    · subst hb
      rw [upd_same] at z
      cases z
      exact exo_ok hx₅
    · rw [upd_ne hb] at z
      by_cases hd : b = dx
      · subst hd
        rw [upd_same] at z
        cases z
        exact exd_ok hn₅ (relO_put (fs := []) rv fun g => True.intro)
      · rw [upd_ne hd] at z
        have nown : ∀ {c : Addr}, H c = some (.own b) → c ≠ a := fun {c} hc => at_ne ea hc exo_own
        refine (e0.hok b o z).stay (fun c y hc e => k05 c y ?_ e) (fun c hc => ?_) (fun c xs hc => ?_)
        · rcases hc with hc | hc
          · rw [hc]
            exact hb
          · exact nown hc
        · rw [upd_ne (nown hc), upd_ne (ne_of_none hc hnd)]
          exact hc
        · rw [upd_ne (at_ne ea hc exo_tup), upd_ne (ne_of_none hc hnd)]
          exact hc
end TS
namespace TS
open PySem PySem.Spec PyProof.Rows PySem.W PySem.Calls L2
section
variable {prog : Program} {w : World} {M : Model} {A : Around} {E : Value → Shared → Prop} {R : Result → Shared → Prop} {h : Heap} {g : Array GenState} {d : Drawn} {t : Nat} {os : OsState}
variable {nm q : Str} {C N : Addr} {bs bm bmB : List Value} {hdct : Bool} {sn : List Str} {sub : List Value} {ab : Bool} {col : Option Bool} {dd : Option Addr} {k0 k1 k2 k3 k5 : Option Value} {B newId initId : String}
theorem check_newK (F : ExcBaseFacts B newId initId bmB) (hT : bm.contains (.type B) = true ∧ bm.contains (.type "AttributeError") = false ∧ bm.contains (.type "NameError") = false) {rest : List Value} {arg : Str} {u : Value} {Q : Unit → Shared → Prop}
    (hC : h.get? C = some (excClassObj nm q C N bs bm hdct sn sub ab col dd k0 k1 k2 k3 k5 newId)) (hq : Q () ⟨h, g, d, t, os⟩) :
    wpAny M A (checkBuiltinCall newId ⟨.ref C :: rest, [(arg, u)]⟩) Q E ⟨h, g, d, t, os⟩ := by
  have hB : (Value.ref C :: bm).contains (.type B) = true := by
    rw [List.contains_cons, hT.1, Bool.or_true]
  have hst := F.noStar
  simp only [checkBuiltinCall, F.newKind, F.newSplit, F.newRow]
  repeat (first
    | refine wpAny_loadPart_at hC ?_
    | (refine wpAny_isSubtype_exc hC ?_; rw [hB])
    | refine wpAny_staticBase_exc hC ?_
    | refine wpAny_madeBy_exc hC ?_
    | simp only [bne_self_eq_false, Bool.false_eq_true, if_false]
    | wp_step)
  exact hq
theorem newK (F : ExcBaseFacts B newId initId bmB) (hT : bm.contains (.type B) = true ∧ bm.contains (.type "AttributeError") = false ∧ bm.contains (.type "NameError") = false) {rest : List Value} {arg : Str} {u : Value}
    (hC : h.get? C = some (excClassObj nm q C N bs bm hdct sn sub ab col dd k0 k1 k2 k3 k5 newId))
    (hq : R (.ok (.ret (.ref (h.objs.size + 1)))) ⟨(h.push (kdv_tup rest)).push (PySem.HandSPX.excO C h.objs.size), g, d, t, os⟩) (hrest : rest.length ≤ sizeLine) :
    codeAny (model prog w) A (.builtin newId ⟨.ref C :: rest, [(arg, u)]⟩) R ⟨h, g, d, t, os⟩ := by
  have e0 := F.ends
  have e1 : (Value.ref C :: bm).contains (.type B) = true := by rw [List.contains_cons, hT.1, Bool.or_true]
  have e2 : (Value.ref C :: bm).contains (.type "AttributeError") = false := by rw [List.contains_cons, hT.2.1] <;> rfl
  have e3 : (Value.ref C :: bm).contains (.type "NameError") = false := by rw [List.contains_cons, hT.2.2] <;> rfl
  refine codeAny_builtinAt F.entry ?_
  unfold Builtin.«BaseException.__new__»
  refine PySem.wpAt_bind ?_
  show PySem.wpAt _ _ _ (stack >>= _) _ _ _
  refine PySem.wpAt_bind (PySem.wpAt_stack fun p below => PySem.wpAt_of_wpAny ?_)
  wp_walk
  refine PySem.wpAt_of_wpAny ?_
  rw [F.owner]
  repeat (first
    | with_reducible refine wpAny_madeHere_exc F.canon hC ?_
    | with_reducible refine wpAny_loadPart_at hC ?_
    | (with_reducible refine wpAny_isSubtype_exc hC ?_; first | rw [e1] | rw [e2] | rw [e3])
    | wp_step)
  show R _ _
  rw [Heap.size_push]
  exact hq
theorem type_callK (F : ExcBaseFacts B newId initId bmB) (hT : bm.contains (.type B) = true ∧ bm.contains (.type "AttributeError") = false ∧ bm.contains (.type "NameError") = false) {rest : List Value} {arg : Str} {u : Value} {fI : Addr} {Q : PySem.Fin → Shared → Prop}
    (hC : h.get? C = some (excClassObj nm q C N bs bm hdct sn sub ab col dd k0 k1 k2 k3 k5 newId))
    (hi : Looks (model prog w) h (typeLookup (.ref C) "__init__") (some (.ref fI))) (hb : ∀ self, Looks (model prog w) h (bindSpecial (.ref fI) self) (.ref fI, [self])) (hrest : rest.length ≤ sizeLine)
    (hq : codeAny (model prog w) A (.call (.ref fI) ⟨.ref (h.objs.size + 1) :: rest, [(arg, u)]⟩)
      (fun r s' => match r with | .ok (.ret v) => v = .none ∧ Q (.done (.ret (.ref (h.objs.size + 1)))) s' | .ok _ => False | .error e => E e s')
      ⟨(h.push (kdv_tup rest)).push (PySem.HandSPX.excO C h.objs.size), g, d, t, os⟩) :
    wpAny (model prog w) A (Builtin.«type.__call__» ⟨.ref C :: rest, [(arg, u)]⟩) Q E ⟨h, g, d, t, os⟩ := by
  repeat (first
    | with_reducible refine wpAny_loadPart_at hC ?_
    | with_reducible refine wpAny_madeBy_exc hC ?_
    | wp_step)
  refine codeAny_call_builtin_code (Code.quiet_builtin _ F.quiet) (check_newK F hT hC ?_)
  refine newK F hT hC ?_ hrest
  show wpAny _ _ _ _ _ _
  have kp : ∀ b o, h.get? b = some o → ((h.push (kdv_tup rest)).push (PySem.HandSPX.excO C h.objs.size)).get? b = some o :=
    fun b o z => Heap.get?_push_of_some _ (Heap.get?_push_of_some _ z)
  have hC1 := kp _ _ hC
  have hget : ((h.push (kdv_tup rest)).push (PySem.HandSPX.excO C h.objs.size)).get? (h.objs.size + 1) = some (PySem.HandSPX.excO C h.objs.size) := by heap_get
  have hcC : (Value.ref C :: bm).contains (.ref C) = true := by simp
  have j1 := hi.keeps kp
  have j2 := (hb (.ref (h.objs.size + 1))).keeps kp
  unfold isInstance
  repeat (first
    | with_reducible refine wpAny_loadPart_at hget ?_
    | (with_reducible refine wpAny_isSubtype_exc hC1 ?_; rw [hcC])
    | wp_step)
  show wpAny _ _ (typeLookup (.ref C) _) _ _ _
  refine j1.at ?_
  refine wpAny_holding (wpAny_bind (j2.at ?_))
  refine wpAny_bind (wpAny_call (codeAny_mono hq fun r s' z => ?_))
  rcases r with e | (v | _ | _ | _) <;> first | exact z | exact z.elim | skip
  obtain ⟨rfl, z⟩ := z
  first
    | exact wpAny_pure (wpAny_pure z)
    | (wp_walk; exact z)
theorem check_typeK {rest : List Value} {arg : Str} {u : Value} {Q : Unit → Shared → Prop} (hC : h.get? C = some (excClassObj nm q C N bs bm hdct sn sub ab col dd k0 k1 k2 k3 k5 newId))
    (hq : Q () ⟨h, g, d, t, os⟩) : wpAny M A (checkBuiltinCall "type.__call__" ⟨.ref C :: rest, [(arg, u)]⟩) Q E ⟨h, g, d, t, os⟩ := by
  have f3 := tc_sub
  have hTy : (⟨h, g, d, t, os⟩ : Shared).TypeIs (.ref C) "type" := ⟨_, hC, rfl⟩
  simp only [checkBuiltinCall, tc_kind, tc_split]
  repeat (any_goals (first
    | assumption
    | with_reducible refine wpAny_loadPart_at hC ?_
    | with_reducible refine wpAny_onRaise ?_
    | with_reducible refine wpAny_map ?_
    | wp_step))
theorem callK (F : ExcBaseFacts B newId initId bmB) (hT : bm.contains (.type B) = true ∧ bm.contains (.type "AttributeError") = false ∧ bm.contains (.type "NameError") = false) {rest : List Value} {arg : Str} {u : Value} {fI : Addr}
    (hC : h.get? C = some (excClassObj nm q C N bs bm hdct sn sub ab col dd k0 k1 k2 k3 k5 newId))
    (hi : Looks (model prog w) h (typeLookup (.ref C) "__init__") (some (.ref fI))) (hb : ∀ self, Looks (model prog w) h (bindSpecial (.ref fI) self) (.ref fI, [self])) (hrest : rest.length ≤ sizeLine)
    (hq : codeAny (model prog w) (A.under (.builtin "type.__call__" ⟨.ref C :: rest, [(arg, u)]⟩)) (.call (.ref fI) ⟨.ref (h.objs.size + 1) :: rest, [(arg, u)]⟩) (InitBack (h.objs.size + 1) R)
      ⟨(h.push (kdv_tup rest)).push (PySem.HandSPX.excO C h.objs.size), g, d, t, os⟩) :
    codeAny (model prog w) A (.call (.ref C) ⟨rest, [(arg, u)]⟩) R ⟨h, g, d, t, os⟩ := by
  have f1 := tc_lookup
  have f2 := tc_bind (.ref C)
  have hTy : (⟨h, g, d, t, os⟩ : Shared).TypeIs (.ref C) "type" := ⟨_, hC, rfl⟩
  refine codeAny_of_tree ?_
  show wpAny _ _ (callAny (.ref C) _) _ _ _
  repeat (any_goals (first
    | assumption
    | with_reducible refine wpAny_loadPart_at hC ?_
    | wp_step))
  refine ⟨rfl, ?_⟩
  refine codeAny_call_builtin_at (Code.quiet_builtin _ (by decide +kernel)) entry_typeCall (check_typeK hC (type_callK F hT hC hi hb hrest ?_))
  refine codeAny_mono hq fun r s' z => ?_
  rcases r with e | (v | _ | _ | _) <;> exact z
theorem check_new0 (F : ExcBaseFacts B newId initId bmB) (hT : bm.contains (.type B) = true ∧ bm.contains (.type "AttributeError") = false ∧ bm.contains (.type "NameError") = false) {rest : List Value} {Q : Unit → Shared → Prop}
    (hC : h.get? C = some (excClassObj nm q C N bs bm hdct sn sub ab col dd k0 k1 k2 k3 k5 newId)) (hq : Q () ⟨h, g, d, t, os⟩) :
    wpAny M A (checkBuiltinCall newId ⟨.ref C :: rest, []⟩) Q E ⟨h, g, d, t, os⟩ := by
  have hB : (Value.ref C :: bm).contains (.type B) = true := by
    rw [List.contains_cons, hT.1, Bool.or_true]
  have hst := F.noStar
  simp only [checkBuiltinCall, F.newKind, F.newSplit, F.newRow]
  repeat (first
    | refine wpAny_loadPart_at hC ?_
    | (refine wpAny_isSubtype_exc hC ?_; rw [hB])
    | refine wpAny_staticBase_exc hC ?_
    | refine wpAny_madeBy_exc hC ?_
    | simp only [bne_self_eq_false, Bool.false_eq_true, if_false]
    | wp_step)
  exact hq
theorem new0 (F : ExcBaseFacts B newId initId bmB) (hT : bm.contains (.type B) = true ∧ bm.contains (.type "AttributeError") = false ∧ bm.contains (.type "NameError") = false) {rest : List Value}
    (hC : h.get? C = some (excClassObj nm q C N bs bm hdct sn sub ab col dd k0 k1 k2 k3 k5 newId))
    (hq : R (.ok (.ret (.ref (h.objs.size + 1)))) ⟨(h.push (kdv_tup rest)).push (PySem.HandSPX.excO C h.objs.size), g, d, t, os⟩) (hrest : rest.length ≤ sizeLine) :
    codeAny (model prog w) A (.builtin newId ⟨.ref C :: rest, []⟩) R ⟨h, g, d, t, os⟩ := by
  have e0 := F.ends
  have e1 : (Value.ref C :: bm).contains (.type B) = true := by rw [List.contains_cons, hT.1, Bool.or_true]
  have e2 : (Value.ref C :: bm).contains (.type "AttributeError") = false := by rw [List.contains_cons, hT.2.1] <;> rfl
  have e3 : (Value.ref C :: bm).contains (.type "NameError") = false := by rw [List.contains_cons, hT.2.2] <;> rfl
  refine codeAny_builtinAt F.entry ?_
  unfold Builtin.«BaseException.__new__»
  refine PySem.wpAt_bind ?_
  show PySem.wpAt _ _ _ (stack >>= _) _ _ _
  refine PySem.wpAt_bind (PySem.wpAt_stack fun p below => PySem.wpAt_of_wpAny ?_)
  wp_walk
  refine PySem.wpAt_of_wpAny ?_
  rw [F.owner]
  repeat (first
    | with_reducible refine wpAny_madeHere_exc F.canon hC ?_
    | with_reducible refine wpAny_loadPart_at hC ?_
    | (with_reducible refine wpAny_isSubtype_exc hC ?_; first | rw [e1] | rw [e2] | rw [e3])
    | wp_step)
  show R _ _
  rw [Heap.size_push]
  exact hq
theorem type_call0 (F : ExcBaseFacts B newId initId bmB) (hT : bm.contains (.type B) = true ∧ bm.contains (.type "AttributeError") = false ∧ bm.contains (.type "NameError") = false) {rest : List Value} {fI : Addr} {Q : PySem.Fin → Shared → Prop}
    (hC : h.get? C = some (excClassObj nm q C N bs bm hdct sn sub ab col dd k0 k1 k2 k3 k5 newId))
    (hi : Looks (model prog w) h (typeLookup (.ref C) "__init__") (some (.ref fI))) (hb : ∀ self, Looks (model prog w) h (bindSpecial (.ref fI) self) (.ref fI, [self])) (hrest : rest.length ≤ sizeLine)
    (hq : codeAny (model prog w) A (.call (.ref fI) ⟨.ref (h.objs.size + 1) :: rest, []⟩)
      (fun r s' => match r with | .ok (.ret v) => v = .none ∧ Q (.done (.ret (.ref (h.objs.size + 1)))) s' | .ok _ => False | .error e => E e s')
      ⟨(h.push (kdv_tup rest)).push (PySem.HandSPX.excO C h.objs.size), g, d, t, os⟩) :
    wpAny (model prog w) A (Builtin.«type.__call__» ⟨.ref C :: rest, []⟩) Q E ⟨h, g, d, t, os⟩ := by
  repeat (first
    | with_reducible refine wpAny_loadPart_at hC ?_
    | with_reducible refine wpAny_madeBy_exc hC ?_
    | wp_step)
  refine codeAny_call_builtin_code (Code.quiet_builtin _ F.quiet) (check_new0 F hT hC ?_)
  refine new0 F hT hC ?_ hrest
  show wpAny _ _ _ _ _ _
  have kp : ∀ b o, h.get? b = some o → ((h.push (kdv_tup rest)).push (PySem.HandSPX.excO C h.objs.size)).get? b = some o :=
    fun b o z => Heap.get?_push_of_some _ (Heap.get?_push_of_some _ z)
  have hC1 := kp _ _ hC
  have hget : ((h.push (kdv_tup rest)).push (PySem.HandSPX.excO C h.objs.size)).get? (h.objs.size + 1) = some (PySem.HandSPX.excO C h.objs.size) := by heap_get
  have hcC : (Value.ref C :: bm).contains (.ref C) = true := by simp
  have j1 := hi.keeps kp
  have j2 := (hb (.ref (h.objs.size + 1))).keeps kp
  unfold isInstance
  repeat (first
    | with_reducible refine wpAny_loadPart_at hget ?_
    | (with_reducible refine wpAny_isSubtype_exc hC1 ?_; rw [hcC])
    | wp_step)
  show wpAny _ _ (typeLookup (.ref C) _) _ _ _
  refine j1.at ?_
  refine wpAny_holding (wpAny_bind (j2.at ?_))
  refine wpAny_bind (wpAny_call (codeAny_mono hq fun r s' z => ?_))
  rcases r with e | (v | _ | _ | _) <;> first | exact z | exact z.elim | skip
  obtain ⟨rfl, z⟩ := z
  first
    | exact wpAny_pure (wpAny_pure z)
    | (wp_walk; exact z)
theorem check_type0 {rest : List Value} {Q : Unit → Shared → Prop} (hC : h.get? C = some (excClassObj nm q C N bs bm hdct sn sub ab col dd k0 k1 k2 k3 k5 newId))
    (hq : Q () ⟨h, g, d, t, os⟩) : wpAny M A (checkBuiltinCall "type.__call__" ⟨.ref C :: rest, []⟩) Q E ⟨h, g, d, t, os⟩ := by
  have f3 := tc_sub
  have hTy : (⟨h, g, d, t, os⟩ : Shared).TypeIs (.ref C) "type" := ⟨_, hC, rfl⟩
  simp only [checkBuiltinCall, tc_kind, tc_split]
  repeat (any_goals (first
    | assumption
    | with_reducible refine wpAny_loadPart_at hC ?_
    | with_reducible refine wpAny_onRaise ?_
    | with_reducible refine wpAny_map ?_
    | wp_step))
theorem call0 (F : ExcBaseFacts B newId initId bmB) (hT : bm.contains (.type B) = true ∧ bm.contains (.type "AttributeError") = false ∧ bm.contains (.type "NameError") = false) {rest : List Value} {fI : Addr}
    (hC : h.get? C = some (excClassObj nm q C N bs bm hdct sn sub ab col dd k0 k1 k2 k3 k5 newId))
    (hi : Looks (model prog w) h (typeLookup (.ref C) "__init__") (some (.ref fI))) (hb : ∀ self, Looks (model prog w) h (bindSpecial (.ref fI) self) (.ref fI, [self])) (hrest : rest.length ≤ sizeLine)
    (hq : codeAny (model prog w) (A.under (.builtin "type.__call__" ⟨.ref C :: rest, []⟩)) (.call (.ref fI) ⟨.ref (h.objs.size + 1) :: rest, []⟩) (InitBack (h.objs.size + 1) R)
      ⟨(h.push (kdv_tup rest)).push (PySem.HandSPX.excO C h.objs.size), g, d, t, os⟩) :
    codeAny (model prog w) A (.call (.ref C) ⟨rest, []⟩) R ⟨h, g, d, t, os⟩ := by
  have f1 := tc_lookup
  have f2 := tc_bind (.ref C)
  have hTy : (⟨h, g, d, t, os⟩ : Shared).TypeIs (.ref C) "type" := ⟨_, hC, rfl⟩
  refine codeAny_of_tree ?_
  show wpAny _ _ (callAny (.ref C) _) _ _ _
  repeat (any_goals (first
    | assumption
    | with_reducible refine wpAny_loadPart_at hC ?_
    | wp_step))
  refine ⟨rfl, ?_⟩
  refine codeAny_call_builtin_at (Code.quiet_builtin _ (by decide +kernel)) entry_typeCall (check_type0 hC (type_call0 F hT hC hi hb hrest ?_))
  refine codeAny_mono hq fun r s' z => ?_
  rcases r with e | (v | _ | _ | _) <;> exact z
end
end TS
namespace TS
open PySem PySem.Spec PyProof.Rows PySem.W PySem.Calls L2
/-- the heap with a new error of the class at C, its attribute fld is v -/
def errH (H : Hp) (a dx C : Addr) (fld : Str) (v : V) : Hp := upd (upd H dx (exd dx [(fld, v)])) a (exo a C (some dx))
theorem errH_of {H : Hp} {a dx C : Addr} {fld : Str} {v : V} (ne : dx ≠ a) : upd (upd (upd H a (exo a C none)) dx (exd dx [(fld, v)])) a (exo a C (some dx)) = errH H a dx C fld v := by
  funext b
  unfold errH
  by_cases hb : b = a
  · rw [hb, upd_same, upd_same]
  · rw [upd_ne hb, upd_ne hb]
    by_cases hd : b = dx
    · rw [hd, upd_same, upd_same]
    · rw [upd_ne hd, upd_ne hd, upd_ne hb]
/-- C(e): a new error -/
def tErr (C : Addr) (fld : Str) (te : TE) : TE := fun σ H Q => te σ H fun v H1 => ∀ a dx, H1 a = none → H1 dx = none → dx ≠ a → Q (.ref a) (errH H1 a dx C fld v)
section
variable {X : Cx} {e : Expr} {te : TE} {p pos kpos : Pos} {x arg fld : Str} {C fI : Addr} {k : Nat} {fd : FuncData} {B newId initId : String} {bmB : List Value}
/-- the call of the class, positional -/
theorem run_err {nm qn : Str} {N : Addr} {bs bm sub : List Value} {sn : List Str} {ab : Bool} {col : Option Bool} {dd : Option Addr} {k0 k1 k2 k3 k5 : Option Value} {pins : List (Addr × Obj)} {σ : L2.St} {H1 : Hp} {Q : VK} {s1 : Shared} {v : V} {u : Value}
    (T : ErrK X.K C B newId initId bmB) (hC : X.K.lookup C = some (excClassObj nm qn C N bs bm true sn sub ab col dd k0 k1 k2 k3 k5 newId)) (hbm : excTail bmB bm = true)
    (iC : findIn X.K (.ref C) "__init__" = some (some (.ref fI))) (tI : typeIn X.K (.ref fI) = some (.type "function"))
    (F1 : FnOk X.prog X.w X.K X.mg X.base CX0 k fI fd ["self", arg] (spIni C fld)) (hr : Room (k + 1) X.A) (I1 : Inv X pins σ H1 s1) (rv : RelV v u)
    (hb : ∀ (s2 : Shared) , X.K.In s2.heap → BindsTo s2 fd ⟨[Value.ref (s1.heap.objs.size + 1), u], []⟩ ((["self", arg] : List Str).zip [Value.ref (s1.heap.objs.size + 1), u]))
    (q : ∀ a, H1 a = none → ∀ dx, H1 dx = none → dx ≠ a → Q (.ref a) (errH H1 a dx C fld v)) :
    wpAny (model X.prog X.w) X.A (call (.ref C) [u]) (EP X pins σ Q) X.xe s1 := by
  obtain ⟨Bn, iN, bmN, NF, hB⟩ := T.NF
  have hT : bm.contains (.type Bn) = true ∧ bm.contains (.type "AttributeError") = false ∧ bm.contains (.type "NameError") = false :=
    ⟨(excTail_contains _ bm hbm).trans hB, (excTail_contains _ bm hbm).trans T.noA, (excTail_contains _ bm hbm).trans T.noN⟩
  obtain ⟨hp, g, dr, tk, os⟩ := s1
  have hsz : hp.objs.size ≤ hp.objs.size + 1 := Nat.le_succ _
  have hn : H1 (hp.objs.size + 1) = none := I1.hok.fresh hsz
  have kk : ∀ b o, hp.get? b = some o → ((hp.push (kdv_tup [u])).push (PySem.HandSPX.excO C hp.objs.size)).get? b = some o :=
    fun b o z => Heap.get?_push_of_some _ (Heap.get?_push_of_some _ z)
  have hget : ((hp.push (kdv_tup [u])).push (PySem.HandSPX.excO C hp.objs.size)).get? (hp.objs.size + 1) = some (PySem.HandSPX.excO C hp.objs.size) := by heap_get
  have I2 : Inv X pins σ (upd H1 (hp.objs.size + 1) (exo (hp.objs.size + 1) C none)) ⟨(hp.push (kdv_tup [u])).push (PySem.HandSPX.excO C hp.objs.size), g, dr, tk, os⟩ :=
    I1.laid (t' := tk) (a := hp.objs.size + 1) (o := exo (hp.objs.size + 1) C none) (h' := (hp.push (kdv_tup [u])).push (PySem.HandSPX.excO C hp.objs.size)) kk hsz (exo_ok hget)
  refine wpAny_call (call0 NF hT (I1.kIn _ _ hC) (looks_findIn I1.kIn iC) (fun self => bind_fn I1.kIn self tI) (by show 1 ≤ sizeLine; decide)
    (codeAny_mono (F1.run _ X.stack _ _ ⟨[Value.ref (hp.objs.size + 1), u], []⟩ [Value.ref (hp.objs.size + 1), u] [.ref (hp.objs.size + 1), v] (fun y H2 => y = .non ∧ Q (.ref (hp.objs.size + 1)) H2) (fun _ _ _ => False)
      (hr.make C [u] []) (I2.env0.make C [u] []) (hb _ I2.kIn) (.cons rfl (.cons rv .nil)) ⟨_, v, rfl, upd_same, fun dx hd ne => ⟨rfl, ?_⟩⟩) fun r s' hq' => ?_))
  · rw [errH_of ne]
    exact q _ hn dx (by rw [upd_ne ne] at hd; exact hd) ne
  · cases r with
    | error er => exact hq'.elim
    | ok fl =>
      cases fl with
      | ret u' =>
        obtain ⟨y, H2, J, ry, ey, q2⟩ := I2.after hq'
        subst ey
        exact ⟨ry, .ref _, H2, J, rfl, q2⟩
      | next => exact False.elim hq'
      | brk => exact False.elim hq'
      | cont => exact False.elim hq'
theorem pe_err (T : ErrK X.K C B newId initId bmB) (iC : findIn X.K (.ref C) "__init__" = some (some (.ref fI))) (tI : typeIn X.K (.ref fI) = some (.type "function"))
    (F1 : FnOk X.prog X.w X.K X.mg X.base CX0 k fI fd ["self", arg] (spIni C fld)) (hr : Room (k + 1) X.A) (hb : Binds X.K fd ["self", arg] []) (hg : Gl X x) (hm : X.mg x = some (.ref C)) (he : PE X e te)
    (hdb : (x == ("__debug__" : Str)) = false := by decide) (hs : starEach [e] X.env = (false, eval e X.env) :: starEach [] X.env := by rfl) :
    PE X (.Call (.Name x p) [e] [] pos) (tErr C fld te) := by
  refine ⟨fun pins s σ H Q I h => ?_⟩
  obtain ⟨nm, qn, N, bs, bm, sn, sub, ab, col, dd, k0, k1, k2, k3, k5, hC, hbm⟩ := T.cls
  refine wpAny_Call_Name_kw (ld_glob I hg hm ?_ hdb)
  have hA : PA X [e] (tCons te tNil) := pa_cons he pa_nil hs
  refine callWith_K (h₀ := X.base) I.ok.mod.kin T.kC (thn (hA.run pos pins s σ H (fun vs H1 => match vs with
    | [v] => ∀ a dx, H1 a = none → H1 dx = none → dx ≠ a → Q (.ref a) (errH H1 a dx C fld v)
    | _ => False) I h) fun us s1 ⟨vs, H1, I1, r1, q1⟩ => ⟨I1.kIn, ?_⟩) hs rfl
  obtain ⟨v, u, rfl, rfl, rv⟩ : ∃ v u, vs = [v] ∧ us = [u] ∧ RelV v u := by
    cases r1 with
    | nil => exact q1.elim
    | cons ra rr =>
      cases rr with
      | nil => exact ⟨_, _, rfl, rfl, ra⟩
      | cons _ _ => exact q1.elim
  exact run_err T hC hbm iC tI F1 hr I1 rv (fun hp2 kin => hb _ _ kin rfl) (fun a hn dx hd ne => q1 a dx hn hd ne)
end
end TS
namespace TS
open PySem PySem.Spec PyProof.Rows PySem.W PySem.Calls L2
/-! an own error whose __init__ calls super().__init__(text), raised -/
/-- what is known of such a class: over any built-in base -/
structure ErrC (P : Program) (w : World) (K : Frag) (mg : Str → Option Value) (base : Heap) (x fld : Str) (C : Addr) : Prop where
  made : ∃ (B newId initId : String) (bmB : List Value) (fI : Addr) (fd : FuncData), ErrK K C B newId initId bmB ∧ findIn K (.ref C) "__init__" = some (some (.ref fI)) ∧ typeIn K (.ref fI) = some (.type "function") ∧
    FnOk P w K mg base CX0 1 fI fd ["self", fld] (spIni C fld) ∧ Binds K fd ["self", fld] []
  mgC : mg x = some (.ref C)
  xf : XfC K C
  no : findIn K (.ref C) fld = some none
/-- C(e), made to be raised: the error stands in the air with its dict -/
def tMkErr (C : Addr) (fld : Str) (te : TE) : L2.St → Hp → XK → Prop := fun σ H Q => te σ H fun v H1 => ∀ d, H1 d = none → Q (.ref C) (some d) (upd H1 d (.xd [(fld, v)]))
section
variable {X : Cx} {e : Expr} {te : TE} {p pos : Pos} {x fld : Str} {C : Addr}
theorem air_eq {H : Hp} {a d : Addr} {o : HO} (ha : H a = none) (hd : d ≠ a) {u : HO} : upd (del (upd (upd (upd H a o) d u) a o) a) d (HO.xd []) = upd H d (HO.xd []) := by
  funext b
  by_cases hb : b = d
  · rw [hb, upd_same, upd_same]
  · rw [upd_ne hb, upd_ne hb]
    by_cases hba : b = a
    · rw [hba, del_same, ha]
    · rw [del_ne hba, upd_ne hba, upd_ne hb, upd_ne hba]
theorem pmk_err (E : ErrC X.prog X.w X.K X.mg X.base x fld C) (hr : Room 2 X.A) (hg : Gl X x) (he : PE X e te) (hdb : (x == ("__debug__" : Str)) = false := by decide +kernel) (hs : starEach [e] X.env = (false, eval e X.env) :: starEach [] X.env := by rfl) :
    PMk X (.Call (.Name x p) [e] [] pos) (tMkErr C fld te) := by
  obtain ⟨B, newId, initId, bmB, fI, fd, T, iC, tI, F1, hb⟩ := E.made
  intro pins s σ H Q I h
  obtain ⟨nm, qn, N, bs, bm, sn, sub, ab, col, dd, k0, k1, k2, k3, k5, hC, hbm⟩ := T.cls
  obtain ⟨Bn, iN, bmN, NF, hB⟩ := T.NF
  have hT : bm.contains (.type Bn) = true ∧ bm.contains (.type "AttributeError") = false ∧ bm.contains (.type "NameError") = false :=
    ⟨(excTail_contains _ bm hbm).trans hB, (excTail_contains _ bm hbm).trans T.noA, (excTail_contains _ bm hbm).trans T.noN⟩
  refine wpAny_Call_Name_kw (ld_glob I hg E.mgC ?_ hdb)
  have hA : PA X [e] (tCons te tNil) := pa_cons he pa_nil hs
  refine callWith_K (h₀ := X.base) I.ok.mod.kin T.kC (thn (hA.run pos pins s σ H (fun vs H1 => match vs with
    | [v] => ∀ d, H1 d = none → Q (.ref C) (some d) (upd H1 d (.xd [(fld, v)]))
    | _ => False) I h) fun us s1 ⟨vs, H1, I1, r1, q1⟩ => ⟨I1.kIn, ?_⟩) hs rfl
  obtain ⟨v, u, rfl, rfl, rv⟩ : ∃ v u, vs = [v] ∧ us = [u] ∧ RelV v u := by
    cases r1 with
    | nil => exact q1.elim
    | cons ra rr =>
      cases rr with
      | nil => exact ⟨_, _, rfl, rfl, ra⟩
      | cons _ _ => exact q1.elim
  show wpAny _ _ (call (.ref C) [u]) _ _ _
  obtain ⟨hp, g, dr, tk, os⟩ := s1
  have hsz : hp.objs.size ≤ hp.objs.size + 1 := Nat.le_succ _
  have hn : H1 (hp.objs.size + 1) = none := I1.hok.fresh hsz
  have kk : ∀ b o, hp.get? b = some o → ((hp.push (kdv_tup [u])).push (PySem.HandSPX.excO C hp.objs.size)).get? b = some o :=
    fun b o z => Heap.get?_push_of_some _ (Heap.get?_push_of_some _ z)
  have hget : ((hp.push (kdv_tup [u])).push (PySem.HandSPX.excO C hp.objs.size)).get? (hp.objs.size + 1) = some (PySem.HandSPX.excO C hp.objs.size) := by heap_get
  have I2 : Inv X pins σ (upd H1 (hp.objs.size + 1) (exo (hp.objs.size + 1) C none)) ⟨(hp.push (kdv_tup [u])).push (PySem.HandSPX.excO C hp.objs.size), g, dr, tk, os⟩ :=
    I1.laid (t' := tk) (a := hp.objs.size + 1) (o := exo (hp.objs.size + 1) C none) (h' := (hp.push (kdv_tup [u])).push (PySem.HandSPX.excO C hp.objs.size)) kk hsz (exo_ok hget)
  refine wpAny_call (call0 NF hT (I1.kIn _ _ hC) (looks_findIn I1.kIn iC) (fun self => bind_fn I1.kIn self tI) (by show 1 ≤ sizeLine; decide)
    (codeAny_mono (F1.run _ X.stack _ _ ⟨[Value.ref (hp.objs.size + 1), u], []⟩ [Value.ref (hp.objs.size + 1), u] [.ref (hp.objs.size + 1), v]
      (fun y H2 => y = .non ∧ ∃ dx, H1 dx = none ∧ dx ≠ hp.objs.size + 1 ∧ H2 = upd (upd (upd H1 (hp.objs.size + 1) (exo (hp.objs.size + 1) C none)) dx (exd dx [(fld, v)])) (hp.objs.size + 1) (exo (hp.objs.size + 1) C (some dx))) (fun _ _ _ => False)
      (hr.make C [u] []) (I2.env0.make C [u] []) (hb _ _ I2.kIn rfl) (.cons rfl (.cons rv .nil)) ⟨_, v, rfl, upd_same, fun dx hd ne => ⟨rfl, dx, (by rw [upd_ne ne] at hd; exact hd), ne, rfl⟩⟩) fun r s' hq' => ?_))
  cases r with
  | error er => exact hq'.elim
  | ok fl =>
    cases fl with
    | ret u' =>
      obtain ⟨y, H2, os2, bare2, un2, hok2, ry, ey, dx, hdx, hne, eH⟩ := hq'
      subst ey
      obtain ⟨h2, g2, d2, t2, os'⟩ := s'
      have ea : H2 (hp.objs.size + 1) = some (exo (hp.objs.size + 1) C (some dx)) := by rw [eH, upd_same]
      have ed : H2 dx = some (exd dx [(fld, v)]) := by rw [eH, upd_ne hne, upd_same]
      have ef : upd (del H2 (hp.objs.size + 1)) dx (.xd [(fld, v)]) = upd H1 dx (.xd [(fld, v)]) := by
        rw [eH]
        funext b
        by_cases hb : b = dx
        · rw [hb, upd_same, upd_same]
        · rw [upd_ne hb, upd_ne hb]
          by_cases hba : b = hp.objs.size + 1
          · rw [hba, del_same, hn]
          · rw [del_ne hba, upd_ne hba, upd_ne hb, upd_ne hba]
      refine ⟨ry, mk_end (raises_own T.exC T.tyC) I1 hsz kk un2 hok2 os2 bare2 ea ed hdx ?_⟩
      rw [ef]
      exact q1 dx hdx
    | next => exact False.elim hq'
    | brk => exact False.elim hq'
    | cont => exact False.elim hq'
/-- raise C(e) -/
theorem ps_raiseErr {W : WX} {pos2 : Pos} (E : ErrC X.prog X.w X.K X.mg X.base x fld C) (hc : X.calm = true) (hr : Room 2 X.A) (tk : Takes X W) (hg : Gl X x) (he : PE X e te) (hdb : (x == ("__debug__" : Str)) = false := by decide +kernel) (hs : starEach [e] X.env = (false, eval e X.env) :: starEach [] X.env := by rfl) :
    PS X (.Raise (some (.Call (.Name x p) [e] [] pos)) none pos2) (fun _ σ H => tMkErr C fld te σ H fun cls d H' => W cls d σ H') := ps_raise hc tk (pmk_err E hr hg he hdb hs)
end
end TS
namespace TS
open PySem PySem.Spec PyProof.Rows L2
/-! a staticmethod called off its class; a method whose errors are wished for at the caller's slots -/
structure SMet (K : PySem.W.Frag) (C : Addr) (mc : Value) (m : Str) (p g : Addr) : Prop where
  rd : PySem.W.readsIn K C mc = true
  ga : PySem.W.specialIn K (.ref C) "__getattribute__" = some (some (.builtin "type.__getattribute__"))
  at_ : PySem.W.findCls K (.ref C) mc m = some (.get (.builtin "staticmethod.__get__") (.ref p) .none (.ref C))
  rc : ∃ rest, PySem.W.recIn K p "staticmethod" = some (.ref g :: rest)
  kp : PySem.W.keepIn K (.ref g) = true
/-- C.m(..), m a staticmethod -/
def tSMeth (C : Addr) (sp : Sp) (E : XK) (ta : TE) (t : TA) : TE := fun σ H Q => ta σ H fun x H1 => x = .ref C ∧ t σ H1 fun vs H2 => sp vs H2 Q E
/-- o.m(..), E at the caller's slots -/
def tMethE (C : Addr) (m : Str) (sp : Sp) (E : L2.St → XK) (ta : TE) (t : TA) : TE := fun σ H Q => ta σ H fun x H1 => ∃ a dx fs, x = .ref a ∧ H1 a = some (.ins C dx fs) ∧ fs.lookup m = none ∧ t σ H1 fun vs H2 => sp (x :: vs) H2 Q (E σ)
section
variable {X : Cx} {CX : CXT} {k : Nat} {C p f g : Addr} {mc : Value} {fd : FuncData} {ps : List Str} {sp : Sp} {E : XK} {o e : Expr} {es : List Expr} {m : Str} {pos apos : Pos} {ta : TE} {t : TA} {pl : Sem Bool}
theorem pe_smeth (he : PE X o ta) (c : SMet X.K C mc m p g) (F : FnOk X.prog X.w X.K X.mg X.base CX k g fd ps sp) (hr : Room k X.A) (hb : Binds X.K fd ps []) (hx : Passes CX X E) (ha : PA X (e :: es) t)
    (hst : starEach (e :: es) X.env = (false, eval e X.env) :: starEach es X.env := by rfl) (hpl : (backTo pos (starEach es X.env)).any (·.1) = false := by rfl)
    (ht : eval (.Call (.Attribute o m apos) (e :: es) [] pos) X.env = (do
      let ov ← eval o X.env
      standAt apos.atName
      let (f, first) ← holding [ov] (getMethod ov m pl)
      callWith pos f first (backTo pos (starEach (e :: es) X.env)) (backToKw pos (keywordEach [] X.env))) := by rfl) :
    PE X (.Call (.Attribute o m apos) (e :: es) [] pos) (tSMeth C sp E ta t) := by
  refine ⟨fun pins s σ H Q I h => ?_⟩
  refine PySem.W.methodCall_KW (pl := pl) (thn (he.run pins s σ H _ I h) fun u s1 ⟨x, H1, I1, rx, ex, q⟩ => ?_) ht
  subst ex
  obtain rfl : u = Value.ref C := rx
  obtain ⟨rest, hp⟩ := c.rc
  refine PySem.W.method_cls I1.kIn c.ga (PySem.W.cls_bind I1.kIn c.rd c.at_ ?_)
  refine wpAny_call (PySem.W.sm_get (s := { s1 with toks := s1.toks + 1 }) I1.kIn hp (PySem.W.handed_on rfl ?_))
  have I2 := I1.tok (s1.toks + 1)
  refine PySem.W.callWith_K (first := []) (h₀ := X.base) I.ok.mod.kin c.kp (thn (ha.run pos pins _ σ H1 _ I2 q) fun us s2 ⟨vs, H2, I3, r, q2⟩ => ⟨I3.kIn, ?_⟩) hst hpl
  exact run_fn (us := us) (vs := vs) (ds := []) (dvs := []) F hr hb .nil hx I3 r (by rw [List.append_nil]; exact q2)
theorem pe_methE {E : L2.St → XK} (he : PE X o ta) (c : Cls X.K C) (hm : Meth X.K C m f) (F : FnOk X.prog X.w X.K X.mg X.base CX k f fd ps sp) (hr : Room k X.A) (hb : Binds X.K fd ps []) (hx : ∀ σ, PassesAt CX X σ (E σ)) (ha : PA X (e :: es) t)
    (hst : starEach (e :: es) X.env = (false, eval e X.env) :: starEach es X.env := by rfl) (hpl : (backTo pos (starEach es X.env)).any (·.1) = false := by rfl)
    (ht : eval (.Call (.Attribute o m apos) (e :: es) [] pos) X.env = (do
      let ov ← eval o X.env
      standAt apos.atName
      let (f, first) ← holding [ov] (getMethod ov m pl)
      callWith pos f first (backTo pos (starEach (e :: es) X.env)) (backToKw pos (keywordEach [] X.env))) := by rfl) :
    PE X (.Call (.Attribute o m apos) (e :: es) [] pos) (tMethE C m sp E ta t) := by
  refine ⟨fun pins s σ H Q I h => ?_⟩
  refine PySem.W.methodCall_KW (pl := pl) (thn (he.run pins s σ H _ I h) fun u s1 ⟨x, H1, I1, rx, a, dx, fs, ex, ea, l, q⟩ => ?_) ht
  subst ex
  obtain rfl : u = Value.ref a := rx
  refine getmeth_ok I1 ea c hm l ?_
  refine PySem.W.callWith_K (first := [.ref a]) (h₀ := X.base) I.ok.mod.kin hm.kp (thn (ha.run pos pins s1 σ H1 _ I1 q) fun us s2 ⟨vs, H2, I2, r, q2⟩ => ⟨I2.kIn, ?_⟩) hst hpl
  exact run_fnS (us := .ref a :: us) (vs := .ref a :: vs) F hr hb (hx σ) I2 (.cons rfl r) q2
end
end TS
namespace TS
open PySem PySem.Spec PyProof.Rows L2
/-! C(..), an own class whose `__init__` may raise, E at the caller's slots -/
def tMakeE (C : Addr) (sp : Sp) (E : L2.St → XK) (t : TA) : TE := fun σ H Q => t σ H fun vs H1 => ∀ x dx, H1 x = none → H1 dx = none → dx ≠ x →
  sp (.ref x :: vs) (upd (upd H1 dx (.own x)) x (.ins C dx [])) (fun v H2 => v = .non ∧ Q (.ref x) H2) (E σ)
section
variable {X : Cx} {CX : CXT} {k : Nat} {C f : Addr} {fd : FuncData} {ps : List Str} {sp : Sp} {x : Str} {e : Expr} {es : List Expr} {p pos : Pos} {t : TA}
theorem run_makeS {E : L2.St → XK} {pins : List (Addr × Obj)} {σ : L2.St} {H : Hp} {s : Shared} {Q : VK} {us : List Value} {vs : List V} (M : Mk X.K C f) (F : FnOk X.prog X.w X.K X.mg X.base CX k f fd ps sp) (hr : Room (k + 1) X.A) (hb : Binds X.K fd ps []) (hx : PassesAt CX X σ (E σ)) (I : Inv X pins σ H s) (r : Vals vs us)
    (q : ∀ x dx, H x = none → H dx = none → dx ≠ x → sp (.ref x :: vs) (upd (upd H dx (.own x)) x (.ins C dx [])) (fun v H2 => v = .non ∧ Q (.ref x) H2) (E σ)) :
    wpAny (model X.prog X.w) X.A (call (.ref C) us) (EP X pins σ Q) X.xe s := by
  have hn : H (s.heap.objs.size) = none := I.hok.fresh (Nat.le_refl _)
  have hn1 : H (s.heap.objs.size + 1) = none := I.hok.fresh (Nat.le_succ _)
  have tI : PySem.W.typeIn X.K (.ref f) = some (.type "function") := by
    have := M.fn
    unfold PySem.W.isFn at this
    simpa using this
  have I2 := I.made (C := C)
  have q2 := q (s.heap.objs.size + 1) s.heap.objs.size hn1 hn (Nat.ne_of_lt (Nat.lt_succ_self _))
  have r2 : Vals (.ref (s.heap.objs.size + 1) :: vs) (Value.ref (s.heap.objs.size + 1) :: us) := .cons rfl r
  have r3 := r2.append (.nil : Vals [] [])
  have hl : ((Value.ref (s.heap.objs.size + 1) :: us) ++ []).length = ps.length := by
    rw [← r3.length, List.append_nil]
    exact F.len _ _ _ _ q2
  have q3 : sp ((.ref (s.heap.objs.size + 1) :: vs) ++ []) (upd (upd H s.heap.objs.size (.own (s.heap.objs.size + 1))) (s.heap.objs.size + 1) (.ins C s.heap.objs.size [])) (fun v H2 => v = .non ∧ Q (.ref (s.heap.objs.size + 1)) H2) (E σ) := by
    rw [List.append_nil]
    exact q2
  refine wpAny_call (make_map I.kIn M.makes M.init tI (codeAny_mono (F.run _ X.stack _ _ ⟨Value.ref (s.heap.objs.size + 1) :: us, []⟩ ((Value.ref (s.heap.objs.size + 1) :: us) ++ []) _ _ (E σ) (hr.make C us []) (I2.env0.make C us []) (hb _ _ I2.kIn hl) r3 q3) fun r' s' hq => ?_))
  cases r' with
  | error er => exact hx pins _ _ er s' I2 hq
  | ok fl =>
    cases fl with
    | ret u =>
      obtain ⟨v, H2, I3, rv, ev, qq⟩ := I2.after hq
      subst ev
      obtain rfl : u = Value.none := rv
      exact ⟨rfl, .ref (s.heap.objs.size + 1), H2, I3, rfl, qq⟩
    | next => exact False.elim hq
    | brk => exact False.elim hq
    | cont => exact False.elim hq
theorem pe_makeE {E : L2.St → XK} (M : Mk X.K C f) (F : FnOk X.prog X.w X.K X.mg X.base CX k f fd ps sp) (hr : Room (k + 1) X.A) (hg : Gl X x) (hm : X.mg x = some (.ref C)) (hb : Binds X.K fd ps []) (hx : ∀ σ, PassesAt CX X σ (E σ)) (ha : PA X (e :: es) t)
    (hdb : (x == ("__debug__" : Str)) = false := by decide +kernel) (he : starEach (e :: es) X.env = (false, eval e X.env) :: starEach es X.env := by rfl) (hpl : (backTo pos (starEach es X.env)).any (·.1) = false := by rfl) :
    PE X (.Call (.Name x p) (e :: es) [] pos) (tMakeE C sp E t) := by
  refine ⟨fun pins s σ H Q I h => ?_⟩
  refine wpAny_Call_Name_kw (ld_glob I hg hm ?_ hdb)
  exact PySem.W.callWith_K (h₀ := X.base) I.ok.mod.kin M.kp (thn (ha.run pos pins s σ H _ I h) fun us s1 ⟨vs, H1, I1, r, q⟩ => ⟨I1.kIn, run_makeS M F hr hb (hx σ) I1 r q⟩) he hpl
end
end TS
namespace TS
open PySem L2
section
variable {P : Program} {w : World} {K : PySem.W.Frag} {mg : Str → Option Value} {base : Heap}
/-- a def that may raise -/
def HasX (P : Program) (w : World) (K : PySem.W.Frag) (mg : Str → Option Value) (base : Heap) (name : Str) (k : Nat) (ps : List Str) (sp : Sp) : Prop :=
  ∃ (f : Addr) (fd : FuncData), mg name = some (.ref f) ∧ PySem.W.keepIn K (.ref f) = true ∧ Binds K fd ps [] ∧ FnOk P w K mg base (L2.CX P w) k f fd ps sp
/-- what makes no term -/
def NoTree (K : PySem.W.Frag) (C : Addr) (H : Hp) (x : V) : Prop := (∃ z : Str, x = .str z ∧ z.length ≤ 100000 ∧ treeOf z = none) ∨
  (∃ (tx : Value) (i b : Bool), TyX K H x tx ∧ PySem.W.kitOne K tx (.ref C) = some false ∧ PySem.W.kitOne K tx (.type "str") = some false ∧ PySem.W.kitOne K tx (.type "int") = some i ∧ PySem.W.kitOne K tx (.type "bool") = some b ∧
      (((i && !b) = true ∧ ∃ n : Int, x = .int n ∧ ¬ (0 ≤ n ∧ n ≤ 9)) ∨ (i && !b) = false))
def spNeedX (K : PySem.W.Frag) (C N : Addr) : Sp := fun vs H Q E => ∃ x : V, vs = [x] ∧
  ((∃ t : Tr, Makes C H x t ∧ t.fine ∧ t.deep ≤ 3 ∧ ∀ (H' : Hp) (v : V), Same H H' → TrAt H' v t → Q v H') ∨
   (NoTree K C H x ∧ ∀ H1 d, Same H H1 → H1 d = none → E (.ref N) (some d) (upd H1 d (.xd [("value", x)]))))
theorem ok_needX {C N f fx : Addr} {fd fdx : FuncData} (F : Fun K "_needed_tree" "_needed_tree" sNeed f fd) (T : BltT mg) (TK : TermK K mg C) (EN : ErrC P w K mg base "NoTerm" "value" N)
    (FX : Fun K "_tree_of" "_tree_of" sTreeOf fx fdx) (bx : Binds K fdx ["value"] []) (mx : mg "_tree_of" = some (.ref fx)) (GX : FnOk P w K mg base CX0 10 fx fdx ["value"] (spTreeOf K C)) : FnOk P w K mg base (L2.CX P w) 11 f fd ["value"] (spNeedX K C N) := by
  refine F.okX scNeed (fun vs H Q E h => ?_) (fun cdv A outer s H vs Q E hr h => ?_)
  · obtain ⟨x, rfl, _⟩ := h
    rfl
  obtain ⟨x, rfl, h⟩ := h
  refine ⟨_, pss_cons (ps_set (i := 1) scNeed.nd rfl (.inl rfl) (pe_call GX hr rfl mx FX.kp bx .nil pass0 (pa_cons (pv 0) pa_nil)))
    (pss_cons (ps_if (pt_cmpR op_isN (pv 1) pe_non (nomark _)) (pss_one (ps_raiseErr (W := fun cls d _ H => E cls d H) EN rfl (hr.mono (by decide)) (takes_of rfl rfl rfl rfl) rfl (pv 0))) pss_nil)
    (pss_one (ps_ret (pv 1)))), ?_⟩
  refine ⟨_, rfl, x, rfl, ?_⟩
  rcases h with ⟨t, hm, hf, hd, q⟩ | ⟨hb, q⟩
  · rcases hm with rfl | ⟨n, rfl, rfl⟩ | ⟨a, rfl, ha⟩
    · refine .inl ⟨t.text, rfl, Nat.le_trans (text315 hf hd) (by decide), ?_⟩
      rw [treeOf_text hf hd]
      intro H' v s h
      refine ⟨_, rfl, rfl, _, rfl, ?_⟩
      rw [ref_ne h]
      exact iteF ⟨_, rfl, q H' v s h⟩
    · refine .inr (.inr ⟨_, true, false, .base (.int n), TK.kInt, kit_ty (by decide +kernel), kit_ty (by decide +kernel), kit_ty (by decide +kernel), .inl ⟨rfl, n, rfl, ?_⟩⟩)
      rw [if_pos ⟨hf.1, hf.2⟩]
      exact ⟨_, rfl, rfl, _, rfl, iteF ⟨_, rfl, q H _ (Same.refl H) (.num n)⟩⟩
    · refine .inr (.inl ⟨a, t, rfl, ha, fun v h => ?_⟩)
      refine ⟨_, rfl, rfl, _, rfl, ?_⟩
      rw [ref_ne h]
      exact iteF ⟨_, rfl, q H v (Same.refl H) h⟩
  · have bad : ∀ H1, Same H H1 → ∀ d, H1 d = none → E (.ref N) (some d) (upd H1 d (.xd [("value", x)])) := fun H1 s1 d hd => q H1 d s1 hd
    rcases hb with ⟨z, rfl, hz, e⟩ | ⟨tx, i, b, h1, h2, h3, h4, h5, h6⟩
    · refine .inl ⟨z, rfl, hz, ?_⟩
      rw [e]
      intro H1 s1
      exact ⟨_, rfl, rfl, _, rfl, iteT ⟨_, rfl, bad H1 s1⟩⟩
    · refine .inr (.inr ⟨tx, i, b, h1, h2, h3, h4, h5, ?_⟩)
      rcases h6 with ⟨e, n, rfl, hn⟩ | e
      · refine .inl ⟨e, n, rfl, ?_⟩
        rw [if_neg hn]
        exact ⟨_, rfl, rfl, _, rfl, iteT ⟨_, rfl, bad H (Same.refl H)⟩⟩
      · exact .inr ⟨e, _, rfl, rfl, _, rfl, iteT ⟨_, rfl, bad H (Same.refl H)⟩⟩
/-! Term.__init__, also where it raises -/
def spTInitX (K : PySem.W.Frag) (C N : Addr) : Sp := fun vs H Q E => ∃ (p dx : Addr) (x : V), vs = [.ref p, x] ∧ H p = some (.ins C dx []) ∧
  ((∃ t : Tr, Makes C H x t ∧ t.fine ∧ t.deep ≤ 3 ∧ ∀ H', SameX p H H' → (∀ Ds, Lists Ds H → ∀ G, SameOff Ds H' G → TermAt C G p t) → Q .non H') ∨
   (NoTree K C H x ∧ ∀ H1 d, Same H H1 → H1 d = none → E (.ref N) (some d) (upd H1 d (.xd [("value", x)]))))
theorem ok_tinitX {C N f : Addr} {fd : FuncData} (F : Fun K "__init__" "Term.__init__" sTInit f fd) (T : BltT mg) (TK : TermK K mg C)
    (D1 : HasX P w K mg base "_needed_tree" 11 ["value"] (spNeedX K C N)) (D2 : Has P w K mg base "_text_of" 3 ["tree"] (spText 3)) (D3 : Has P w K mg base "_depth_of" 3 ["tree"] (spDepth 3)) (D4 : Has P w K mg base "_kind_of" 1 ["tree"] spKind)
    (D5 : Has P w K mg base "_leaves_of" 3 ["tree"] (spLeaves 3)) (D6 : Has P w K mg base "ascending" 1 ["values"] spAsc) : FnOk P w K mg base (L2.CX P w) 12 f fd ["self", "value"] (spTInitX K C N) := by
  obtain ⟨f1, fd1, m1, k1, b1, G1⟩ := D1
  obtain ⟨f2, fd2, m2, k2, b2, G2⟩ := D2
  obtain ⟨f3, fd3, m3, k3, b3, G3⟩ := D3
  obtain ⟨f4, fd4, m4, k4, b4, G4⟩ := D4
  obtain ⟨f5, fd5, m5, k5, b5, G5⟩ := D5
  obtain ⟨f6, fd6, m6, k6, b6, G6⟩ := D6
  refine F.okX scTInit (fun vs H Q E h => ?_) (fun cdv A outer s H vs Q E hr h => ?_)
  · obtain ⟨p, dx, x, rfl, _⟩ := h
    rfl
  obtain ⟨p, dx, x, rfl, hp, h⟩ := h
  have r3 : Room 3 _ := hr.mono (by decide)
  have r1 : Room 1 _ := hr.mono (by decide)
  refine ⟨_, pss_cons (ps_set (i := 2) scTInit.nd rfl (.inl rfl) (pe_callS (E := WE (fun cls d _ H => E cls d H)) G1 hr rfl m1 k1 b1 (fun σ => passAt (takes_of rfl rfl rfl rfl) σ) (pa_cons (pv 1) pa_nil)))
    (pss_cons (ps_fld (pv 0) (pv 2) rfl)
    (pss_cons (ps_fld (pv 0) (pe_call G2 r3 rfl m2 k2 b2 .nil pass0 (pa_cons (pv 2) pa_nil)) rfl)
    (pss_cons (ps_fld (pv 0) (pe_call G3 r3 rfl m3 k3 b3 .nil pass0 (pa_cons (pv 2) pa_nil)) rfl)
    (pss_cons (ps_fld (pv 0) (pe_call G4 r1 rfl m4 k4 b4 .nil pass0 (pa_cons (pv 2) pa_nil)) rfl)
    (pss_cons (ps_fld (pv 0) (pe_call G5 r3 rfl m5 k5 b5 .nil pass0 (pa_cons (pv 2) pa_nil)) rfl)
    (pss_cons (ps_fld (pv 0) (pe_call G6 r1 rfl m6 k6 b6 .nil pass0 (pa_cons
      (pe_lc (own := [("leaf", 3)]) (g := gName 3) (tt := tTest (tCB (rIsi K) (tCons (tVar 3) (tCons (tC (.ty "str")) tNil)))) (by rfl) scTInit.nd (pi_list (pe_fld (pv 0) rfl)) (blkOk_by (own := [("leaf", 3)]) (N := nmTInit) (sc := defScope sTInit) (by decide +kernel)) (fun _ _ _ _ _ => pg_name (i := 3) scTInit.nd rfl (Or.inl rfl))
        (fun _ _ _ _ _ => pts_one (pt_val (pe_callB call_isi (by rfl) T.isi bIsi (pa_cons (pv 3) (pa_cons (pe_bltn (by rfl) T.str (v := .ty "str") (by decide +kernel) rfl) pa_nil))))) (fun _ _ _ _ _ => pv 3)) pa_nil)) rfl)
    (pss_one (ps_fld (pv 0) (pe_call G6 r1 rfl m6 k6 b6 .nil pass0 (pa_cons
      (pe_lc (own := [("leaf", 3)]) (g := gName 3) (tt := tNot (tTest (tCB (rIsi K) (tCons (tVar 3) (tCons (tC (.ty "str")) tNil))))) (by rfl) scTInit.nd (pi_list (pe_fld (pv 0) rfl)) (blkOk_by (own := [("leaf", 3)]) (N := nmTInit) (sc := defScope sTInit) (by decide +kernel)) (fun _ _ _ _ _ => pg_name (i := 3) scTInit.nd rfl (Or.inl rfl))
        (fun _ _ _ _ _ => pts_one (pt_not (pt_val (pe_callB call_isi (by rfl) T.isi bIsi (pa_cons (pv 3) (pa_cons (pe_bltn (by rfl) T.str (v := .ty "str") (by decide +kernel) rfl) pa_nil)))))) (fun _ _ _ _ _ => pv 3)) pa_nil)) rfl)))))))), ?_⟩
  rcases h with ⟨t, hm, hf, hd, q⟩ | ⟨hb, q⟩
  case inr => exact ⟨_, rfl, x, rfl, .inr ⟨hb, q⟩⟩
  have l16 := leaves16 hd
  have lw := filt_words t
  have ln := filt_nums t
  have t315 := text315 hf hd
  refine ⟨_, rfl, x, rfl, .inl ⟨t, hm, hf, hd, fun H1 v s1 t1 => ?_⟩⟩
  have p1 := s1 _ _ hp
  -- self._tree
  refine ⟨_, rfl, _, rfl, p, C, dx, [], rfl, p1, TK.cl, TK.n1, (by show 0 < 1000; decide), ?_⟩
  generalize ez1 : putF "_tree" v [] = z1
  obtain ⟨x1, t2, p2⟩ := nxt z1 (SameX.refl p H |>.trans (Same.x s1)) t1 p1 (Same.refl H1)
  have c1 : z1.length ≤ 1 := by
    rw [← ez1]
    exact few (Nat.le_refl 0)
  generalize upd H1 p (.ins C dx z1) = A1 at x1 t2 p2
  -- self._text
  refine ⟨_, rfl, v, t, rfl, t2, hf.small, hd, by omega, fun H2 g2 => ?_⟩
  refine ⟨_, rfl, p, C, dx, z1, rfl, g2 _ _ p2, TK.cl, TK.n2, by omega, ?_⟩
  generalize ez2 : putF "_text" (.str t.text) z1 = z2
  obtain ⟨x2, t3, p3⟩ := nxt z2 x1 t2 p2 g2
  have c2 : z2.length ≤ 2 := by
    rw [← ez2]
    exact few c1
  generalize upd H2 p (.ins C dx z2) = A2 at x2 t3 p3
  -- self._depth
  refine ⟨_, rfl, v, t, rfl, t3, hd, fun H3 g3 => ?_⟩
  refine ⟨_, rfl, p, C, dx, z2, rfl, g3 _ _ p3, TK.cl, TK.n3, by omega, ?_⟩
  generalize ez3 : putF "_depth" (.int t.deep) z2 = z3
  obtain ⟨x3, t4, p4⟩ := nxt z3 x2 t3 p3 g3
  have c3 : z3.length ≤ 3 := by
    rw [← ez3]
    exact few c2
  generalize upd H3 p (.ins C dx z3) = A3 at x3 t4 p4
  -- self._kind
  refine ⟨_, rfl, v, t, rfl, t4, ?_⟩
  refine ⟨_, rfl, p, C, dx, z3, rfl, p4, TK.cl, TK.n4, by omega, ?_⟩
  generalize ez4 : putF "_kind" (.str t.kind) z3 = z4
  obtain ⟨x4, t5, p5⟩ := nxt z4 x3 t4 p4 (Same.refl A3)
  have c4 : z4.length ≤ 4 := by
    rw [← ez4]
    exact few c3
  generalize upd A3 p (.ins C dx z4) = A4 at x4 t5 p5
  -- self._leaves
  refine ⟨_, rfl, v, t, rfl, t5, hd, by omega, fun l H5 g5 nl hl => ?_⟩
  have lp : l ≠ p := (ne_of_none p5 nl).symm
  refine ⟨_, rfl, p, C, dx, z4, rfl, g5 _ _ p5, TK.cl, TK.n5, by omega, ?_⟩
  generalize ez5 : putF "_leaves" (.ref l) z4 = z5
  obtain ⟨x5, t6, p6⟩ := nxt z5 x4 t5 p5 g5
  have l6 := lst_upd (u := .ins C dx z5) hl lp
  have c5 : z5.length ≤ 5 := by
    rw [← ez5]
    exact few c4
  have k5 : z5.lookup ("_leaves" : Str) = some (.ref l) := by
    rw [← ez5, lookup_putF, if_pos rfl]
  generalize upd H5 p (.ins C dx z5) = A5 at x5 t6 p6 l6
  -- self._variables
  refine ⟨_, rfl, p, C, dx, _, _, rfl, p6, TK.cl, TK.n5, k5, l, rfl, ⟨_, SqL.of l6⟩, fun D hD => lc_filtL isS l6 (by omega) hD (fun _ => rfl) (fun _ => rfl) (fun i y H1 R hy sy r => ?_) (fun H6 g6 d6 => ?_)⟩
  · obtain ⟨u, ty, ky⟩ := isS_kit (K := K) (H := H1) (List.mem_of_getElem? hy)
    exact ⟨_, rfl, _, _, _, _, _, rfl, .ty "str", ty, ky, _, rfl, r⟩
  rw [leaves_words] at d6
  refine ⟨D, _, rfl, d6, by rw [List.length_map]; omega, .inl ⟨t.words, rfl, fun qv H7 ws g7 nq pw sw hq => ?_⟩⟩
  have g67 := g6.trans g7
  have qp : qv ≠ p := (ne_of_none (g6 _ _ p6) nq).symm
  refine ⟨_, rfl, p, C, dx, z5, rfl, g67 _ _ p6, TK.cl, TK.n6, by omega, ?_⟩
  generalize ez6 : putF "_variables" (.ref qv) z5 = z6
  obtain ⟨x6, t7, p7⟩ := nxt z6 x5 t6 p6 g67
  have l7 := lst_upd (u := .ins C dx z6) (g67 _ _ l6) lp
  have q7 := lst_upd (u := .ins C dx z6) hq qp
  have c6 : z6.length ≤ 6 := by
    rw [← ez6]
    exact few c5
  have k6 : z6.lookup ("_leaves" : Str) = some (.ref l) := by
    rw [← ez6, lookup_putF, if_neg (by decide +kernel)]
    exact k5
  generalize upd H7 p (.ins C dx z6) = A6 at x6 t7 p7 l7 q7
  -- self._constants
  refine ⟨_, rfl, p, C, dx, _, _, rfl, p7, TK.cl, TK.n5, k6, l, rfl, ⟨_, SqL.of l7⟩, fun D hD => lc_filtL (fun y => !isS y) l7 (by omega) hD (fun _ => rfl) (fun _ => rfl) (fun i y H1 R hy sy r => ?_) (fun H8 g8 d8 => ?_)⟩
  · obtain ⟨u, ty, ky⟩ := isS_kit (K := K) (H := H1) (List.mem_of_getElem? hy)
    exact ⟨_, rfl, _, _, _, _, _, rfl, .ty "str", ty, ky, _, rfl, r⟩
  rw [leaves_nums] at d8
  refine ⟨D, _, rfl, d8, by rw [List.length_map]; omega, .inr ⟨t.nums, rfl, fun rv H9 ns g9 nr pn sn hr9 => ?_⟩⟩
  have g89 := g8.trans g9
  have rp : rv ≠ p := (ne_of_none (g8 _ _ p7) nr).symm
  refine ⟨_, rfl, p, C, dx, z6, rfl, g89 _ _ p7, TK.cl, TK.n7, by omega, ?_⟩
  generalize ez7 : putF "_constants" (.ref rv) z6 = z7
  obtain ⟨x7, t8, p8⟩ := nxt z7 x6 t7 p7 g89
  have l8 := lst_upd (u := .ins C dx z7) (g89 _ _ l7) lp
  have q8 := lst_upd (u := .ins C dx z7) (g89 _ _ q7) qp
  have r8 := lst_upd (u := .ins C dx z7) hr9 rp
  have ez : z7 = tfs v t.text t.deep t.kind l qv rv := by
    rw [← ez7, ← ez6, ← ez5, ← ez4, ← ez3, ← ez2, ← ez1]
    rfl
  generalize upd H9 p (.ins C dx z7) = A7 at x7 t8 p8 l8 q8 r8
  rw [ez] at p8
  refine q A7 x7 fun Ds hDs G sG => ?_
  have out : ∀ {b : Addr} {o : HO}, A7 b = some o → (∀ xs, o ≠ .lst xs) → b ∉ Ds := fun {b o} hb no m => by
    obtain ⟨xs, e⟩ := hDs b m
    have nb : b ≠ p := ne_of e hp (by intro z; cases z)
    have := x7 b _ e nb
    rw [hb] at this
    exact no xs (Option.some.inj this)
  have lD : l ∉ Ds := fun m => by
    obtain ⟨xs, e⟩ := hDs l m
    have := x4 l _ e (ne_of e hp (by intro z; cases z))
    rw [nl] at this
    cases this
  have qD : qv ∉ Ds := fun m => by
    obtain ⟨xs, e⟩ := hDs qv m
    have := g6 _ _ (x5 qv _ e (ne_of e hp (by intro z; cases z)))
    rw [nq] at this
    cases this
  have rD : rv ∉ Ds := fun m => by
    obtain ⟨xs, e⟩ := hDs rv m
    have := g8 _ _ (x6 rv _ e (ne_of e hp (by intro z; cases z)))
    rw [nr] at this
    cases this
  have hDs7 : Lists Ds A7 := fun D m => by
    obtain ⟨xs, e⟩ := hDs D m
    exact ⟨xs, x7 D _ e (ne_of e hp (by intro z; cases z))⟩
  exact ⟨hf, hd, dx, v, l, qv, rv, ws, ns, sG _ _ p8 (out p8 (by intro xs z; cases z)), t8.off sG hDs7, sG _ _ l8 lD, sG _ _ q8 qD, sG _ _ r8 rD, pw, sw, pn, sn⟩
end
end TS
namespace TS
open PySem L2
abbrev sTCall : Stmt := (inClass (top 26) 6)
/-- what stands in the dicts of the law -/
inductive CellV (H : Hp) : V → Prop
  | int (i : Int) : CellV H (.int i)
  | non : CellV H .non
  | bl (b : Bool) : CellV H (.bl b)
  | str (x : Str) : CellV H (.str x)
  | tup {a : Addr} {xs : List V} (h : H a = some (.tup xs)) : CellV H (.ref a)
def isNumV : V → Bool
  | .int _ => true
  | _ => false
theorem CellV.same {H H' : Hp} {v : V} (h : CellV H v) (s : Same H H') : CellV H' v := by
  cases h with
  | int i => exact .int i
  | non => exact .non
  | bl b => exact .bl b
  | str x => exact .str x
  | tup h => exact .tup (s _ _ h)
theorem CellV.kit {K : PySem.W.Frag} {H : Hp} {v : V} (h : CellV H v) : ∃ (ty : Value) (i b : Bool), TyX K H v ty ∧ PySem.W.kitOne K ty (.type "int") = some i ∧ PySem.W.kitOne K ty (.type "bool") = some b ∧ (i && !b) = isNumV v := by
  cases h with
  | int i => exact ⟨_, true, false, .base (.int i), kit_ty (by decide +kernel), kit_ty (by decide +kernel), rfl⟩
  | non => exact ⟨_, false, false, .base .non, kit_ty (by decide +kernel), kit_ty (by decide +kernel), rfl⟩
  | bl b => exact ⟨_, true, true, .base (.bl b), kit_ty (by decide +kernel), kit_ty (by decide +kernel), rfl⟩
  | str x => exact ⟨_, false, false, .base (.str x), kit_ty (by decide +kernel), kit_ty (by decide +kernel), rfl⟩
  | tup h => exact ⟨_, false, false, .base (.tup h), kit_ty (by decide +kernel), kit_ty (by decide +kernel), rfl⟩
def isNumO : Option V → Bool
  | some v => isNumV v
  | none => false
theorem isNumO_getD (o : Option V) : isNumV (o.getD .non) = isNumO o := by
  cases o <;> rfl
theorem val_mem {kvs : List (Key × V)} {k : Key} {v : V} (h : valV kvs k = some v) : ∃ q ∈ kvs, q.2 = v := by
  unfold valV at h
  cases e : kvs.find? (fun kv => decide (kv.1 = k)) with
  | none =>
    rw [e] at h
    cases h
  | some q =>
    rw [e] at h
    cases h
    exact ⟨q, List.mem_of_find?_eq_some e, rfl⟩
theorem cell_at {H : Hp} {kvs : List (Key × V)} {x : Str} (h : ∀ q ∈ kvs, CellV H q.2) : CellV H ((atS kvs x).getD .non) := by
  cases e : atS kvs x with
  | none => exact .non
  | some v =>
    obtain ⟨q, hq, rfl⟩ := val_mem e
    exact h q hq
/-- the number that a dict has for a word -/
def rhoOf (kvs : List (Key × V)) (x : Str) : Int := match atS kvs x with
  | some (.int i) => i
  | _ => 0
theorem rho_at {kvs : List (Key × V)} {x : Str} (h : isNumO (atS kvs x) = true) : atS kvs x = some (.int (rhoOf kvs x)) := by
  unfold rhoOf
  revert h
  cases atS kvs x with
  | none => intro h; cases h
  | some v => cases v <;> intro h <;> first | rfl | cases h
/-- the first word that has no number -/
def firstBad (kvs : List (Key × V)) (ws : List Str) : Option Str := ws.find? fun x => !isNumO (atS kvs x)
theorem firstBad_at {kvs : List (Key × V)} {x : Str} : ∀ {ws : List Str} {i : Nat}, ws[i]? = some x → (∀ y ∈ ws.take i, isNumO (atS kvs y) = true) → isNumO (atS kvs x) = false → firstBad kvs ws = some x
  | [], _, h, _, _ => by simp at h
  | y :: r, 0, h, _, b => by
    simp at h
    subst h
    simp [firstBad, List.find?_cons, b]
  | y :: r, i + 1, h, pre, b => by
    have e := pre y (by simp)
    unfold firstBad
    rw [List.find?_cons, e]
    exact firstBad_at (ws := r) (i := i) (by simpa using h) (fun z hz => pre z (by simp [hz])) b
theorem firstBad_none {kvs : List (Key × V)} {ws : List Str} (h : ∀ y ∈ ws, isNumO (atS kvs y) = true) : firstBad kvs ws = none := by
  unfold firstBad
  rw [List.find?_eq_none]
  intro y hy
  simp [h y hy]
def spTCall (K : PySem.W.Frag) (C N NN : Addr) : Sp := fun vs H Q E => ∃ (p : Addr) (t : Tr) (y : V), vs = [.ref p, y] ∧ TermAt C H p t ∧
  ((∃ (d : Addr) (kvs : List (Key × V)), y = .ref d ∧ H d = some (.dK kvs) ∧ (∀ q ∈ kvs, CellV H q.2) ∧ ∀ ws : List Str, ws.Perm (once t.words) → PyProof.Rows.sortedS ws = true →
      (∀ x, firstBad kvs ws = some x → ∀ dd, H dd = none → E (.ref NN) (some dd) (upd H dd (.xd [("who", .str x)]))) ∧ (firstBad kvs ws = none → Q (.int (t.worth (rhoOf kvs))) H)) ∨
   (∃ ty : Value, TyX K H y ty ∧ PySem.W.kitOne K ty (.type "dict") = some false ∧ ∀ dd, H dd = none → E (.ref N) (some dd) (upd H dd (.xd [("value", y)]))))
section
variable {P : Program} {w : World} {K : PySem.W.Frag} {mg : Str → Option Value} {base : Heap}
abbrev nmTCall : List Str := ["self", "values", "name"]
theorem scTCall : FnScope nmTCall ["self", "values"] (defScope sTCall) := ⟨rfl, rfl, rfl, by decide +kernel, rfl, by decide +kernel, by decide +kernel⟩
abbrev sTWorth : Stmt := (inClass (top 26) 12)
def spTWorth (C : Addr) : Sp := fun vs H Q _ => ∃ (p d : Addr) (t : Tr) (kvs : List (Key × V)), vs = [.ref p, .ref d] ∧ TermAt C H p t ∧ H d = some (.dK kvs) ∧ (∀ x ∈ t.words, atS kvs x = some (.int (rhoOf kvs x))) ∧ Q (.int (t.worth (rhoOf kvs))) H
theorem scTWorth : FnScope ["self", "values"] ["self", "values"] (defScope sTWorth) := ⟨rfl, rfl, rfl, by decide +kernel, rfl, by decide +kernel, by decide +kernel⟩
theorem ok_tworth {C f : Addr} {fd : FuncData} (F : Fun K "worth" "Term.worth" sTWorth f fd) (TK : TermK K mg C) (D2 : Has P w K mg base "_value_of" 3 ["tree", "values"] (spVal 3)) : FnOk P w K mg base CX0 4 f fd ["self", "values"] (spTWorth C) := by
  obtain ⟨f2, fd2, m2, k2, b2, G2⟩ := D2
  refine F.ok scTWorth (fun vs H Q E h => ?_) (fun cdv A outer s H vs Q E hr h => ?_)
  · obtain ⟨p, d, t, kvs, rfl, _⟩ := h
    rfl
  obtain ⟨p, d, t, kvs, rfl, ht, hD, wsall, q⟩ := h
  refine ⟨_, pss_one (ps_ret (pe_call G2 hr rfl m2 k2 b2 .nil pass0 (pa_cons (pe_fld (pv 0) rfl) (pa_cons (pv 1) pa_nil)))), ?_⟩
  obtain ⟨hf, hd, dx, v, l, qv, rv, ws, ns, h1, h2, h3, h4, h5, pw, sw, _⟩ := ht
  exact ⟨_, rfl, p, C, dx, _, _, rfl, h1, TK.cl, TK.n1, tfs_tree _ _ _ _ _ _ _, _, rfl, v, t, d, kvs, rhoOf kvs, rfl, h2, hd, hD, wsall, q⟩
theorem ok_tcall {C N NN f : Addr} {fd : FuncData} (F : Fun K "__call__" "Term.__call__" sTCall f fd) (T : BltT mg) (md : mg "dict" = none) (TK : TermK K mg C) (EN : ErrC P w K mg base "NoTerm" "value" N) (EW : ErrC P w K mg base "NoName" "who" NN)
    (D1 : Has P w K mg base "is_number" 1 ["value"] (spNum K)) (D2 : HasM P w K mg base C "worth" 4 ["self", "values"] (spTWorth C)) : FnOk P w K mg base (L2.CX P w) 5 f fd ["self", "values"] (spTCall K C N NN) := by
  obtain ⟨f1, fd1, m1, k1, b1, G1⟩ := D1
  obtain ⟨f2, fd2, h2m, b2, G2⟩ := D2
  refine F.okX scTCall (fun vs H Q E h => ?_) (fun cdv A outer s H vs Q E hr h => ?_)
  · obtain ⟨p, t, y, rfl, _⟩ := h
    rfl
  obtain ⟨p, t, y, rfl, ht, h⟩ := h
  have hu := hu_of hr
  have r1 : Room 1 _ := hr.mono (by decide)
  have r2 : Room 2 _ := hr.mono (by decide)
  refine ⟨_, pss_cons (ps_if (pt_not (pt_val (pe_callB call_isi (by rfl) T.isi bIsi (pa_cons (pv 1) (pa_cons (pe_bltn (by rfl) md (v := .ty "dict") (by decide +kernel) rfl) pa_nil)))))
      (pss_one (ps_raiseErr (W := fun cls d _ H => E cls d H) EN rfl r2 (takes_of rfl rfl rfl rfl) rfl (pv 1))) pss_nil)
    (pss_cons (ps_for (passes_of rfl) rfl (pi_list (pe_fld (pv 0) rfl)) (pg_name (i := 2) scTCall.nd rfl (.inl rfl))
      (pss_one (ps_if (pt_not (pt_val (pe_callS (E := WE (fun cls d _ H => E cls d H)) (CX := CX0) G1 r1 rfl m1 k1 b1 (fun σ => fun _ _ _ _ _ _ c => (by first | exact c.elim | exact False.elim c)) (pa_cons (pe_dget1 hu (pv 1) (pv 2) ⟨by rfl, by rfl, rfl, by rfl⟩) pa_nil))))
        (pss_one (ps_raiseErr (W := fun cls d _ H => E cls d H) EW rfl r2 (takes_of rfl rfl rfl rfl) rfl (pv 2))) pss_nil)))
    (pss_one (ps_ret (pe_meth (E := E0) (CX := CX0) (pv 0) TK.cl h2m G2 hr b2 .nil (fun _ _ _ _ _ _ _ c => (by first | exact c.elim | exact False.elim c)) (pa_cons (pv 1) pa_nil))))), ?_⟩
  rcases h with ⟨d, kvs, rfl, hD, hc, q⟩ | ⟨ty, hty, hk, q⟩
  case inr =>
    exact ⟨_, rfl, _, _, _, _, _, rfl, .ty "dict", hty, hk, _, rfl, iteT ⟨_, rfl, q⟩⟩
  refine ⟨_, rfl, _, _, _, _, _, rfl, .ty "dict", .base (.dK hD), kit_ty (r := true) (by decide +kernel), _, rfl, iteF ?_⟩
  obtain ⟨hf, hd, dx, v, l, qv, rv, ws, ns, h1, h2, h3, h4, h5, pw, sw, _⟩ := id ht
  obtain ⟨qb, qg⟩ := q ws pw sw
  refine ⟨_, rfl, p, C, dx, _, _, rfl, h1, TK.cl, TK.n6, tfs_vars _ _ _ _ _ _ _, qv, rfl, ⟨_, SqL.of h4⟩, for_list (K := K) (a := qv) (xs := ws.map V.str) (fun i σ' H' => H' = H ∧ (∃ j2 : Option V, σ' = [some (.ref p), some (.ref d), j2]) ∧ ∀ y ∈ ws.take i, isNumO (atS kvs y) = true) ⟨rfl, ⟨_, rfl⟩, by simp⟩ (fun i σ' H' _ z => ?_) ?_ ?_⟩
  · obtain ⟨rfl, _⟩ := z
    exact SqL.of h4
  · rintro i x σ' H' hx ⟨rfl, ⟨j2, rfl⟩, pre⟩
    rw [List.getElem?_map] at hx
    cases ex : ws[i]? with
    | none =>
      rw [ex] at hx
      cases hx
    | some z =>
      rw [ex] at hx
      cases hx
      obtain ⟨ty, a, b, hty, ka, kb, e⟩ := (cell_at (x := z) hc).kit (K := K)
      refine ⟨_, rfl, d, rfl, .inl ⟨kvs, .inl hD⟩, _, rfl, _, dget_s (.inl hD) rfl, _, ty, a, b, rfl, hty, ka, kb, _, rfl, ?_⟩
      rw [e, isNumO_getD]
      cases eb : isNumO (atS kvs z) with
      | false => exact iteT ⟨_, rfl, qb z (firstBad_at ex pre eb)⟩
      | true =>
        refine iteF ⟨rfl, ⟨_, rfl⟩, fun y hy => ?_⟩
        rw [List.take_succ, ex] at hy
        rcases List.mem_append.mp hy with hy | hy
        · exact pre y hy
        · simp at hy
          subst hy
          exact eb
  · rintro σ' H' ⟨rfl, ⟨j2, rfl⟩, all⟩
    rw [List.length_map, List.take_length] at all
    have wsall : ∀ x ∈ t.words, atS kvs x = some (.int (rhoOf kvs x)) := fun x hx => rho_at (all x (pw.mem_iff.mpr ((once_mem _ _).mpr hx)))
    exact ⟨_, rfl, p, dx, _, rfl, h1, tfs_no _ _ _ _ _ _ _ (by decide +kernel), _, rfl, p, d, t, kvs, rfl, ht, hD, wsall, qg (firstBad_none all)⟩
end
end TS
namespace TS
open PySem PySem.Spec PyProof.Rows PySem.W PySem.Calls L2
section
variable {X : Cx} {e : Expr} {te : TE} {p pos kpos : Pos} {x arg fld : Str} {C fI : Addr} {k : Nat} {fd : FuncData} {B newId initId : String} {bmB : List Value}
/-- the call of the class, by keyword -/
theorem run_errK {nm qn : Str} {N : Addr} {bs bm sub : List Value} {sn : List Str} {ab : Bool} {col : Option Bool} {dd : Option Addr} {k0 k1 k2 k3 k5 : Option Value} {pins : List (Addr × Obj)} {σ : L2.St} {H1 : Hp} {Q : VK} {s1 : Shared} {v : V} {u : Value}
    (T : ErrK X.K C B newId initId bmB) (hC : X.K.lookup C = some (excClassObj nm qn C N bs bm true sn sub ab col dd k0 k1 k2 k3 k5 newId)) (hbm : excTail bmB bm = true)
    (iC : findIn X.K (.ref C) "__init__" = some (some (.ref fI))) (tI : typeIn X.K (.ref fI) = some (.type "function"))
    (F1 : FnOk X.prog X.w X.K X.mg X.base CX0 k fI fd ["self", arg] (spIni C fld)) (hr : Room (k + 1) X.A) (I1 : Inv X pins σ H1 s1) (rv : RelV v u)
    (hb : ∀ (s2 : Shared) (o : Addr), BindsTo s2 fd ⟨[Value.ref o], [(arg, u)]⟩ ((["self", arg] : List Str).zip [Value.ref o, u]))
    (q : ∀ a, H1 a = none → ∀ dx, H1 dx = none → dx ≠ a → Q (.ref a) (errH H1 a dx C fld v)) :
    wpAny (model X.prog X.w) X.A (call (.ref C) [] [(arg, u)]) (EP X pins σ Q) X.xe s1 := by
  obtain ⟨Bn, iN, bmN, NF, hB⟩ := T.NF
  have hT : bm.contains (.type Bn) = true ∧ bm.contains (.type "AttributeError") = false ∧ bm.contains (.type "NameError") = false :=
    ⟨(excTail_contains _ bm hbm).trans hB, (excTail_contains _ bm hbm).trans T.noA, (excTail_contains _ bm hbm).trans T.noN⟩
  obtain ⟨hp, g, dr, tk, os⟩ := s1
  have hsz : hp.objs.size ≤ hp.objs.size + 1 := Nat.le_succ _
  have hn : H1 (hp.objs.size + 1) = none := I1.hok.fresh hsz
  have kk : ∀ b o, hp.get? b = some o → ((hp.push (kdv_tup [])).push (PySem.HandSPX.excO C hp.objs.size)).get? b = some o :=
    fun b o z => Heap.get?_push_of_some _ (Heap.get?_push_of_some _ z)
  have hget : ((hp.push (kdv_tup [])).push (PySem.HandSPX.excO C hp.objs.size)).get? (hp.objs.size + 1) = some (PySem.HandSPX.excO C hp.objs.size) := by heap_get
  have I2 : Inv X pins σ (upd H1 (hp.objs.size + 1) (exo (hp.objs.size + 1) C none)) ⟨(hp.push (kdv_tup [])).push (PySem.HandSPX.excO C hp.objs.size), g, dr, tk, os⟩ :=
    I1.laid (t' := tk) (a := hp.objs.size + 1) (o := exo (hp.objs.size + 1) C none) (h' := (hp.push (kdv_tup [])).push (PySem.HandSPX.excO C hp.objs.size)) kk hsz (exo_ok hget)
  refine wpAny_call (callK NF hT (I1.kIn _ _ hC) (looks_findIn I1.kIn iC) (fun self => bind_fn I1.kIn self tI) (by show 0 ≤ sizeLine; decide)
    (codeAny_mono (F1.run _ X.stack _ _ ⟨[Value.ref (hp.objs.size + 1)], [(arg, u)]⟩ [Value.ref (hp.objs.size + 1), u] [.ref (hp.objs.size + 1), v] (fun y H2 => y = .non ∧ Q (.ref (hp.objs.size + 1)) H2) (fun _ _ _ => False)
      (hr.make C [] [(arg, u)]) (I2.env0.make C [] [(arg, u)]) (hb _ _) (.cons rfl (.cons rv .nil)) ⟨_, v, rfl, upd_same, fun dx hd ne => ⟨rfl, ?_⟩⟩) fun r s' hq' => ?_))
  · rw [errH_of ne]
    exact q _ hn dx (by rw [upd_ne ne] at hd; exact hd) ne
  · cases r with
    | error er => exact hq'.elim
    | ok fl =>
      cases fl with
      | ret u' =>
        obtain ⟨y, H2, J, ry, ey, q2⟩ := I2.after hq'
        subst ey
        exact ⟨ry, .ref _, H2, J, rfl, q2⟩
      | next => exact False.elim hq'
      | brk => exact False.elim hq'
      | cont => exact False.elim hq'
theorem pe_errK (T : ErrK X.K C B newId initId bmB) (iC : findIn X.K (.ref C) "__init__" = some (some (.ref fI))) (tI : typeIn X.K (.ref fI) = some (.type "function"))
    (F1 : FnOk X.prog X.w X.K X.mg X.base CX0 k fI fd ["self", arg] (spIni C fld)) (hr : Room (k + 1) X.A)
    (hb : ∀ (s2 : Shared) (o : Addr) (u : Value), BindsTo s2 fd ⟨[Value.ref o], [(arg, u)]⟩ ((["self", arg] : List Str).zip [Value.ref o, u]))
    (hg : Gl X x) (hm : X.mg x = some (.ref C)) (he : PE X e te) (hdb : (x == ("__debug__" : Str)) = false := by decide) :
    PE X (.Call (.Name x p) [] [⟨some arg, e, kpos⟩] pos) (tErr C fld te) := by
  refine ⟨fun pins s σ H Q I h => ?_⟩
  obtain ⟨nm, qn, N, bs, bm, sn, sub, ab, col, dd, k0, k1, k2, k3, k5, hC, hbm⟩ := T.cls
  refine wpAny_Call_Name_kw (ld_glob I hg hm ?_ hdb)
  have hA : PK X [⟨some arg, e, kpos⟩] (tCons te tNil) := pk_cons he pk_nil
  refine callWith_KW0 (h₀ := X.base) I.ok.mod.kin T.kC rfl ?_ rfl
  refine thn (hA.run pos pins s σ H (fun vs H1 => match vs with
    | [v] => ∀ a dx, H1 a = none → H1 dx = none → dx ≠ a → Q (.ref a) (errH H1 a dx C fld v)
    | _ => False) I h) fun us s1 ⟨vs, H1, I1, r1, q1⟩ => ⟨I1.kIn, ?_⟩
  obtain ⟨v, u, rfl, rfl, rv⟩ : ∃ v u, vs = [v] ∧ us = [u] ∧ RelV v u := by
    cases r1 with
    | nil => exact q1.elim
    | cons ra rr =>
      cases rr with
      | nil => exact ⟨_, _, rfl, rfl, ra⟩
      | cons _ _ => exact q1.elim
  exact run_errK T hC hbm iC tI F1 hr I1 rv (fun s2 o => hb s2 o u) (fun a hn dx hd ne => q1 a dx hn hd ne)
/-- e.f of an error that was made here -/
def tErrF (K : Frag) (f : Str) (te : TE) : TE := fun σ H Q => te σ H fun y H1 => ∃ (a dx C : Addr) (fs : List (Str × V)) (v : V), y = .ref a ∧ H1 a = some (exo a C (some dx)) ∧ H1 dx = some (exd dx fs) ∧
  fs.lookup f = some v ∧ XfC K C ∧ findIn K (.ref C) f = some none ∧ Q v H1
theorem err_inst {pins : List (Addr × Obj)} {σ : L2.St} {H1 : Hp} {s1 : Shared} {a dx : Addr} {fs : List (Str × V)} (I1 : Inv X pins σ H1 s1) (ea : H1 a = some (exo a C (some dx))) (ed : H1 dx = some (exd dx fs)) :
    ∃ (ox od : Obj) (mA : Str → Option Value), InstAt s1.heap a ox C (some od) ∧ (∀ f, RelO (fs.lookup f) (mA f)) ∧ ∀ n, lookIn n od = some (mA n) := by
  obtain ⟨t1, ho⟩ := exo_at I1.hok ea
  obtain ⟨mA, hns, rel⟩ := exd_at I1.hok ed
  obtain ⟨od, hod, hl⟩ := lookIn_ns hns
  exact ⟨_, od, mA, ⟨ho, rfl, rfl, hod⟩, rel, hl⟩
theorem pe_errF {f : Str} (he : PE X e te) (hb : attributeBase e f X.env (eval e X.env) = eval e X.env := by rfl) : PE X (.Attribute e f pos) (tErrF X.K f te) := by
  refine ⟨fun pins s σ H Q I h => ?_⟩
  refine attr_of hb (thn (he.run pins s σ H _ I h) fun u s1 hh => ?_)
  obtain ⟨y, H1, I1, ry, a, dx, C, fs, v, ey, ea, ed, l, T, hno, q⟩ := hh
  subst ey
  obtain rfl : u = Value.ref a := ry
  obtain ⟨ox, od, mA, J, rel, hl⟩ := err_inst I1 ea ed
  obtain ⟨u, hu, ru⟩ := RelO.some_of (v := v) (o := mA f) (by rw [← l]; exact rel f)
  exact PySem.HandSPX.exc_get I1.kIn J T.ga T.gg T.exC (findObj_own T.hdC hno rfl (by rw [hl, hu])) (handed_of ru) ⟨v, H1, I1.tok _, ru, q⟩
/-- what isinstance asks of an own error's class -/
structure IsX (K : Frag) (C : Addr) : Prop where
  x : XfC K C
  hcl : (clsIn K C).isSome = true
  ha : findIn K (.ref C) "__class__" = some (some (.builtin "object.__class__"))
  hn : specialIn K (.builtin "object.__class__") "__get__" = some (some (.builtin "getset_descriptor.__get__"))
  htk : takesIn K (.builtin "object.__class__") = some true
  hm : mroIn K C (.type "object") = some true
/-- isinstance(e, c) of an error that was made here -/
def rIsX (K : Frag) : List V → Hp → VK → Prop := fun xs H Q => ∃ (a dx C : Addr) (fs : List (Str × V)) (c : V) (cv : Value) (b : Bool), xs = [.ref a, c] ∧ H a = some (exo a C (some dx)) ∧ H dx = some (exd dx fs) ∧
  IsX K C ∧ ClsV c cv ∧ kitOne K (.ref C) cv = some b ∧ Q (.bl b) H
theorem call_isX : CallR X (.builtin "isinstance") (rIsX X.K) := by
  intro pins s σ H xs us Q I r h
  obtain ⟨a, dx, C, fs, c, cv, b, rfl, ea, ed, T, kc, ek, q⟩ := h
  obtain ⟨u1, u2, rfl, r1, r2⟩ := vals2 r
  have e2 := kc.eq r2
  subst e2
  obtain rfl : u1 = Value.ref a := r1
  obtain ⟨ox, od, mA, J, _, _⟩ := err_inst I ea ed
  exact kia_one (kitx_exc T.hcl T.x.ga T.x.gg T.x.exC T.ha T.hn T.htk T.hm) I.kIn J ek (fun z => nomatch z) fun tk => ⟨.bl b, H, I.tok tk, rfl, q⟩
/-- isinstance(e, (c, ..)) of an error that was made here, the tuple just laid -/
def rIsXT (K : Frag) : List V → Hp → VK → Prop := fun xs H Q => ∃ (a dx C tp : Addr) (fs : List (Str × V)) (cs : List V) (cvs : List Value) (b : Bool), xs = [.ref a, .ref tp] ∧ H a = some (exo a C (some dx)) ∧ H dx = some (exd dx fs) ∧
  IsX K C ∧ H tp = some (.tup cs) ∧ Paired ClsV cs cvs ∧ kitAny K (.ref C) cvs = some b ∧ Q (.bl b) H
theorem call_isXT : CallR X (.builtin "isinstance") (rIsXT X.K) := by
  intro pins s σ H xs us Q I r h
  obtain ⟨a, dx, C, tp, fs, cs, cvs, b, rfl, ea, ed, T, hT, kc, ek, q⟩ := h
  obtain ⟨u1, u2, rfl, r1, r2⟩ := vals2 r
  obtain rfl : u2 = Value.ref tp := r2
  obtain rfl : u1 = Value.ref a := r1
  obtain ⟨ox, od, mA, J, _, _⟩ := err_inst I ea ed
  obtain ⟨_, its, rv, o, h1, h2, n, h3⟩ := (show ObjOk X.prog X.w H s.heap tp (.tup cs) from I.hok tp _ hT)
  have e3 := ClsV.all kc rv
  subst e3
  obtain ⟨oc, od', dt, sl⟩ := o
  simp only at h2 h3
  subst h2 h3
  exact kia_tup (kitx_exc T.hcl T.x.ga T.x.gg T.x.exC T.ha T.hn T.htk T.hm) I.kIn J h1 ek (fun z => nomatch z) fun tk => ⟨.bl b, H, I.tok tk, rfl, q⟩
/-- repr of a list or a tuple of data, where nothing is being shown -/
def rRepr (K : Frag) : List V → Hp → VK → Prop := fun xs H Q => ∃ (a : Addr) (dt : PyData), xs = [.ref a] ∧ Dp K H (.ref a) dt ∧ dt.showable = true ∧ dt.hasDict = false ∧ dt.depth ≤ 20 ∧ dt.shown.length ≤ sizeLine ∧ Q (.str dt.shown) H
theorem call_reprD {j : Nat} (hg : X.A.guards = some []) (hr : Room j X.A) : CallR X (.builtin "repr") (rRepr X.K) := by
  intro pins s σ H xs us Q I r h
  obtain ⟨a, dt, rfl, hd, hs, hn, hdp, hz, q⟩ := h
  obtain ⟨u1, rfl, r1⟩ : ∃ u1, us = [u1] ∧ RelV (.ref a) u1 := by
    cases r with
    | cons ra rr =>
      cases rr
      exact ⟨_, rfl, ra⟩
  obtain rfl : u1 = Value.ref a := r1
  obtain ⟨as, rd⟩ := Dp.reads I dt _ _ hd (show RelV (.ref a) (Value.ref a) from rfl)
  have hu := hr.un
  refine repr_of_reads' rd hs (fun z => by rw [hn] at z; cases z) hg (by omega) (fun b o z => z) (fun h' u tk hk => ?_) hz
  exact ⟨.str dt.shown, H, I.un (t' := tk) (Un.kept hk) (I.hok.kept hk), ⟨u, rfl⟩, q⟩
end
end TS
namespace TS
open PySem PySem.Spec PyProof.Rows L2
/-! several except clauses, each with `as n` of one name n, in slot i -/
abbrev ClauseT := Addr → Value → Option Addr → TS
def wClauses (K : PySem.W.Frag) (i : Nat) (Wout : WX) (D : Ends) : List (Value × ClauseT) → WX
  | [] => Wout
  | (c, tc) :: more => fun cls d σ H => ∃ fits, PySem.W.exmOne K cls c = some fits ∧
      (fits = true → ∀ x, H x = none → tc x cls d { nx := fun τ G => D.nx (τ.set i none) G, rt := D.rt, bk := fun τ G => D.bk (τ.set i none) G, ct := fun τ G => D.ct (τ.set i none) G } (σ.set i (some (.ref x))) H) ∧
      (fits = false → wClauses K i Wout D more cls d σ H)
inductive Clauses (X : Cx) (n : Str) : List ExceptHandler → List (Value × ClauseT) → Prop
  | done : Clauses X n [] []
  | next {name : Str} {c : Value} {tc : ClauseT} {st : Stmt} {sts : List Stmt} {p1 p2 : Pos} {hs : List ExceptHandler} {ts : List (Value × ClauseT)} (isC : Names X name c)
      (body : ∀ (x : Addr) (ob : Obj) (cls : Value) (d : Option Addr) (pn : List (Addr × Obj)), Zc cls d ob → (∃ fs, ob.data = .fields fs) → PSs (X.suite x ((x, ob) :: pn)) (st :: sts) (tc x cls d)) (more : Clauses X n hs ts) :
      Clauses X n (.ExceptHandler (some (.Name name p1)) (some n) (st :: sts) p2 :: hs) ((c, tc) :: ts)
section
variable {X : Cx} {n : Str} {i : Nat} {pins : List (Addr × Obj)} {σ : L2.St} {H : Hp}
/-- a suite that has ended: its name goes -/
theorem clause_end {s : Shared} {D : Ends} {x : Addr} {ob : Obj} {p : Pos} (ok : X.Ok) (nd : X.N.Nodup) (at_i : X.N[i]? = some n) (loc : X.env.kindOf n = some .local) (f : Flow)
    (h : SP (X.suite x ((x, ob) :: (X.pn ++ pins))) [] { nx := fun τ G => D.nx (τ.set i none) G, rt := D.rt, bk := fun τ G => D.bk (τ.set i none) G, ct := fun τ G => D.ct (τ.set i none) G } f s) :
    wpAny (model X.prog X.w) X.A (do bindName X.env n .none; unbindBehindTheSuite X.env n p) (fun _ t => SP X pins D f t) X.xe s := by
  cases f with
  | ret u =>
    obtain ⟨v, τ, G, J, rv, q⟩ := h
    exact gone_ok (J.unsuite ok) nd at_i loc fun t J2 => ⟨_, _, _, J2, rv, q⟩
  | next =>
    obtain ⟨τ, G, J, q⟩ := h
    exact gone_ok (J.unsuite ok) nd at_i loc fun t J2 => ⟨_, _, J2, q⟩
  | brk =>
    obtain ⟨τ, G, J, q⟩ := h
    exact gone_ok (J.unsuite ok) nd at_i loc fun t J2 => ⟨_, _, J2, q⟩
  | cont =>
    obtain ⟨τ, G, J, q⟩ := h
    exact gone_ok (J.unsuite ok) nd at_i loc fun t J2 => ⟨_, _, J2, q⟩
end
section
variable {X : Cx} {n : Str} {i : Nat} {stmts : List Stmt} {h1 : ExceptHandler} {hs : List ExceptHandler} {ts : List (Value × ClauseT)} {pos : Pos} {tb : WX → TS} {Wout : WX}
theorem ps_try_clauses (stk : X.stack = X.env :: X.outer) (frm : X.env.frame = some X.env.locals) (nd : X.N.Nodup) (at_i : X.N[i]? = some n) (loc : X.env.kindOf n = some .local) (tk : Takes X Wout)
    (inner : ∀ (W : WX) (pn : List (Addr × Obj)) (xe : Value → Shared → Prop), Takes (X.tr pn xe) W → PassesOwn (model X.prog X.w) X.A X.env xe → PSs (X.tr pn xe) stmts (tb W))
    (cs : Clauses X n (h1 :: hs) ts) : PS X (.Try stmts (h1 :: hs) [] [] pos) (fun D σ H => tb (wClauses X.K i Wout D ts) D σ H) := by
  constructor
  intro pins s σ H D I want
  have ok := I.ok
  refine wpAny_Try_except (wpAny_mono ((inner (wClauses X.K i Wout D ts) (X.pn ++ pins) (fun e r => wpAny (model X.prog X.w) X.A (noteFrame e X.env) (fun _ r2 => wpAny (model X.prog X.w) X.A (setFlight e none)
    (fun _ r3 => wpAny (model X.prog X.w) X.A (handleBy e X.env (h1 :: hs)) (SP X pins D) X.xe r3) X.xe r2) X.xe r) ?caught PassesOwn.looking).run [] s σ H D (I.toTry _) want) ?ended fun e r he => he)
  case ended =>
    intro f r hf
    cases f with
    | ret u =>
      obtain ⟨v, τ, G, J, rv, q⟩ := hf
      exact ⟨v, τ, G, J.ofTry ok, rv, q⟩
    | next =>
      obtain ⟨τ, G, J, q⟩ := hf
      exact wpAny_execs_nil ⟨τ, G, J.ofTry ok, q⟩
    | brk =>
      obtain ⟨τ, G, J, q⟩ := hf
      exact ⟨τ, G, J.ofTry ok, q⟩
    | cont =>
      obtain ⟨τ, G, J, q⟩ := hf
      exact ⟨τ, G, J.ofTry ok, q⟩
  case caught =>
    intro u r air
    obtain ⟨x, B, r0, pins2, τ, G, cls, d, rfl, J2, nb, up, sky, nx, os, ag, wish⟩ := air
    have J := J2.ofTry ok
    rw [show (X.tr (X.pn ++ pins) _).stack = X.env :: X.outer from stk] at sky
    show wpAny (model X.prog X.w) X.A (noteFrame (.ref x) X.env) _ _ _
    refine Sky.land Zc.steady (by rw [ok.frames, stk]) frm sky fun hp fl up2 => ?_
    have J3 : Inv X pins τ G { r with heap := hp } := J.landed nb fl.1 (up.trans up2) os ag
    obtain ⟨ob, fs, hx, hz, hd⟩ := fl.there
    have out : x ∉ frs (X.env :: X.outer) := fun m => by
      obtain ⟨_, o2, e2, no⟩ := fl.2.2.1.mem m
      rw [hx] at e2
      cases e2
      exact no _ hd
    have xL : x ≠ X.env.locals := fun e => out (List.mem_filterMap.mpr ⟨X.env, List.mem_cons_self, by rw [frm, e]⟩)
    have xF : x ∉ X.fs := fun m => by
      obtain ⟨e, he, q⟩ := List.mem_filterMap.mp m
      exact out (List.mem_filterMap.mpr ⟨e, List.mem_cons_of_mem _ he, q⟩)
    have S3 := J3.suite hx hd nx xL xF
    have kind : PySem.W.Looks (model X.prog X.w) hp (typeOf (.ref x)) cls := fun A Q E t k q => wpAny_typeOf_ref (k _ _ hx) (by rw [hz.1]; exact q)
    have all : ∀ {hs2 : List ExceptHandler} {ts2 : List (Value × ClauseT)}, Clauses X n hs2 ts2 → wClauses X.K i Wout D ts2 cls d τ G → wpAny (model X.prog X.w) X.A (handleBy (.ref x) X.env hs2) (SP X pins D) X.xe { r with heap := hp } := by
      intro hs2 ts2 each
      induction each with
      | done =>
        intro w0
        refine wpAny_handleBy_nil ?_
        obtain ⟨_, _, _, ob5, fs5, T, oT, tl, e5, z5, d5, f1, _⟩ := id fl
        unfold PySem.passOn
        refine wpAny_bind (wpAny_field e5 d5 f1 ?_)
        rw [if_neg (by simp)]
        have away : wpAny (model X.prog X.w) X.A (setFlight (.ref x) X.env.frame) (fun _ t => wpAny (model X.prog X.w) X.A (throw (.ref x) : Sem Flow) (SP X pins D) X.xe t) X.xe { r with heap := hp } := by
          rw [frm]
          exact HandSPX.setFlight_upZ fl fun h4 hang up4 => wpAny_throw (tk _ _ ⟨x, B, r0, pins, τ, G, cls, d, rfl, J, nb, (up.trans up2).trans up4, .inr (.inr (by rw [stk]; exact hang)), nx, os, ag, w0⟩)
        first
          | exact wpAny_bind (wpAny_pure (wpAny_bind away))
          | exact wpAny_bind away
      | @next name c tc st sts p1 p2 hs3 ts3 isC body more ih =>
        intro w0
        obtain ⟨fits, e1, yes, no⟩ := w0
        refine wpAny_handleBy_cons (codeAny_handlers_test ?_) (by intro z; cases z)
        have M1 := PySem.W.exm_one (M := model X.prog X.w) J3.kIn kind e1
        have named : ∀ {Q E : Value → Shared → Prop}, Q c { r with heap := hp } → wpAny (model X.prog X.w) (X.A.mark (some (.ref x))) (eval (.Name name p1) X.env) Q E { r with heap := hp } := by
          intro Q E q
          obtain ⟨g, dbg, m | ⟨m, v, nn⟩⟩ := isC
          · exact ld_glob (X := X.suite x ((x, ob) :: (X.pn ++ pins))) S3 g m q dbg
          · exact ld_blt (X := X.suite x ((x, ob) :: (X.pn ++ pins))) S3 g m v q nn dbg
        refine named (M1.here ?_)
        cases fits with
        | false => exact ih (no rfl)
        | true =>
          refine codeAny_handlers_suite_as (HandSPX.lands_againZ fl fun h4 fl4 up4 => ?_)
          obtain ⟨ob4, fs4, hx4, hz4, hd4⟩ := fl4.there
          have S4 := (J.landed (s' := { r with heap := h4 }) nb fl4.1 ((up.trans up2).trans up4) os ag).suite hx4 hd4 nx xL xF
          refine store_ok (X := X.suite x ((x, ob4) :: (X.pn ++ pins))) (v := .ref x) S4 nd at_i (.inl loc) rfl (fun t S5 => ?_) (.inr loc)
          exact wpAny_mono ((body x ob4 cls d (X.pn ++ pins) hz4 ⟨_, hd4⟩).run [] t _ G _ S5 (yes rfl x nx)) (fun f t2 ht2 => clause_end ok nd at_i loc f ht2) fun _ _ z => z.elim
    exact all cs wish
end
end TS
namespace TS
open PySem PySem.Spec PyProof.Rows PySem.W L2
/-! an own object that is called: its own __call__ -/
section
variable {M : Model} {A : Around} {E : Value → Shared → Prop} {s : Shared} {pos : Pos} {f : Value} {first : List Value} {args : List (Bool × Sem Value)} {kws : List (Option Str × Sem Value)} {Q : Value → Shared → Prop}
theorem callWith_other (hp : (args.any (·.1) || kws.any (·.1.isNone)) = false)
    (h : wpAny M A (evalArgs f true args kws) (fun r t => Looks M t.heap (keeperOf f) Keeper.caller ∧ wpAny M A (call f (first ++ r.pos) r.kw) Q E t) E s) : wpAny M A (callWith pos f first args kws) Q E s := by
  unfold callWith
  refine wpAny_bind (wpAny_holding (wpAny_mono h ?_ fun _ _ z => z))
  rintro r t ⟨L, hc⟩
  refine wpAny_bind (wpAny_standAt ?_)
  simp only [hp]
  refine wpAny_bind (L.here (wpAny_bind (wpAny_operate' (wpAny_mono hc ?_ fun _ _ z => z))))
  intro v t2 hv
  exact wpAny_bind (wpAny_holding (wpAny_point (wpAny_pure hv)))
end
section
variable {P : Program} {w : World} {A : Around} {s : Shared} {K : Frag} {a C dx g : Addr} {od : Option Obj} {ar : Args} {R : Result → Shared → Prop}
theorem keeper_inst (ha : s.heap.get? a = some (instObj C dx)) : Looks (model P w) s.heap (keeperOf (.ref a)) Keeper.caller := by
  refine (Looks.ld (part := none) ha).andThen ?_
  exact .now
theorem code_inst {og : Obj} {fd : FuncData} (KI : K.In s.heap) (ha : s.heap.get? a = some (instObj C dx)) (hs : findIn K (.ref C) "__call__" = some (some (.ref g))) (hf : isFn K (.ref g) = true) (hg : K.lookup g = some og) (hgd : og.data = .func fd)
    (h : codeAny (model P w) A (.call (.ref g) { ar with pos := .ref a :: ar.pos }) R s) : codeAny (model P w) A (.call (.ref a) ar) R s := by
  refine codeAny_of_tree ?_
  show wpAny _ A.in1 (callAny (.ref a) ar) _ _ s
  simp only [callAny]
  refine wpAny_bind (wpAny_load ha ?_)
  simp only [callAny.viaDunder]
  have LT : Looks (model P w) s.heap (typeOf (.ref a)) (.ref C) := fun A Q E t k q => wpAny_typeOf_ref (k _ _ ha) q
  unfold specialOf
  refine wpAny_bind (wpAny_bind (LT.here ((looks_findIn KI hs).here ?_)))
  refine wpAny_bind ((bind_fn KI _ (beq_iff_eq.mp hf)).here ?_)
  simp only [callAny.plainCallee]
  refine wpAny_bind (wpAny_bind (wpAny_load (KI _ _ hg) ?_))
  simp only [hgd]
  refine wpAny_pure ?_
  exact wpAny_pure (And.intro rfl h)
end
def tCallObj (C : Addr) (sp : Sp) (E : L2.St → XK) (to : TE) (t : TA) : TE := fun σ H Q => to σ H fun x H1 => ∃ a, x = .ref a ∧ t σ H1 fun vs H2 => (∃ dx fs, H2 a = some (.ins C dx fs)) ∧ sp (x :: vs) H2 Q (E σ)
section
variable {X : Cx} {CX : CXT} {k : Nat} {C f : Addr} {fd fd2 : FuncData} {og : Obj} {ps : List Str} {sp : Sp} {E : L2.St → XK} {o e : Expr} {es : List Expr} {pos : Pos} {to : TE} {t : TA}
theorem pe_callObj (ho : PE X o to) (hs : findIn X.K (.ref C) "__call__" = some (some (.ref f))) (hf : isFn X.K (.ref f) = true) (hg : X.K.lookup f = some og) (hgd : og.data = .func fd2) (F : FnOk X.prog X.w X.K X.mg X.base CX k f fd ps sp) (hr : Room k X.A) (hb : Binds X.K fd ps []) (hx : ∀ σ, PassesAt CX X σ (E σ)) (ha : PA X (e :: es) t)
    (hst : starEach (e :: es) X.env = (false, eval e X.env) :: starEach es X.env := by rfl) (hpl : (backTo pos (starEach es X.env)).any (·.1) = false := by rfl)
    (ht : eval (.Call o (e :: es) [] pos) X.env = (do
      let fv ← eval o X.env
      callWith pos fv [] (backTo pos (starEach (e :: es) X.env)) (backToKw pos (keywordEach [] X.env))) := by rfl) :
    PE X (.Call o (e :: es) [] pos) (tCallObj C sp E to t) := by
  refine ⟨fun pins s σ H Q I h => ?_⟩
  rw [ht]
  refine wpAny_bind (thn (ho.run pins s σ H _ I h) fun u s1 ⟨x, H1, I1, rx, a, ex, q⟩ => ?_)
  subst ex
  obtain rfl : u = Value.ref a := rx
  have aw := ha.run pos pins s1 σ H1 _ I1 q
  rw [hst] at aw ⊢
  refine callWith_other ?_ (Calls.evalArgs_plain (wpAny_mono aw ?_ fun _ _ z => z))
  · show ((false || (backTo pos (starEach es X.env)).any (·.1)) || false) = false
    rw [hpl]
    rfl
  rintro us s2 ⟨vs, H2, I2, r, ⟨dx, fs, hi⟩, q2⟩
  obtain ⟨mA, J, _⟩ := ins_get I2.hok hi
  have hat : s2.heap.get? a = some (instObj C dx) := J.1
  refine ⟨keeper_inst hat, ?_⟩
  have r2 : Vals (.ref a :: vs) (Value.ref a :: us) := .cons rfl r
  have hl : (Value.ref a :: us).length = ps.length := by rw [← r2.length]; exact F.len _ _ _ _ q2
  have b := hb s2 (Value.ref a :: us) I2.kIn (by rw [List.append_nil]; exact hl)
  rw [List.append_nil] at b
  refine wpAny_call (code_inst I2.kIn hat hs hf hg hgd (codeAny_mono (F.run X.A X.stack s2 H2 ⟨Value.ref a :: us, []⟩ (Value.ref a :: us) (.ref a :: vs) Q (E σ) hr I2.env0 b r2 q2) fun r s' hq => ?_))
  cases r with
  | error er => exact hx σ pins H2 s2 er s' I2 hq
  | ok fl =>
    cases fl with
    | ret u => exact I2.after hq
    | next => exact False.elim hq
    | brk => exact False.elim hq
    | cont => exact False.elim hq
end
end TS
namespace TS
open PySem PySem.Spec PyProof.Rows L2
/-! repr of a tree, a text, a number, None, an empty list or dict, also while an exception is handled -/
theorem small_log {n : Int} (h : n.natAbs < 2 ^ 4) : n.natAbs.log2 < 4 := by
  by_cases z : n.natAbs = 0
  · rw [z]; decide
  · exact (Nat.log2_lt z).mpr h
theorem Tr.showable : ∀ t : Tr, t.fine → t.data.showable = true
  | .num n, h => by
    obtain ⟨h1, h2⟩ := h
    have := small_log (n := n) (by omega)
    simp only [Tr.data, PyData.showable, decide_eq_true_eq]
    omega
  | .wd x, _ => by simp [Tr.data, PyData.showable]
  | .ch a b c d, h => by simp [Tr.data, PyData.showable, PyData.showableAll, Tr.showable a h.1, Tr.showable b h.2.1, Tr.showable c h.2.2.1, Tr.showable d h.2.2.2]
theorem Tr.noDict : ∀ t : Tr, t.data.hasDict = false
  | .num n => by simp [Tr.data, PyData.hasDict]
  | .wd x => by simp [Tr.data, PyData.hasDict]
  | .ch a b c d => by simp [Tr.data, PyData.hasDict, PyData.hasDictAll, Tr.noDict a, Tr.noDict b, Tr.noDict c, Tr.noDict d]
theorem digit_short : ∀ n : Fin 10, (PyData.int (n.val : Int)).shown.length ≤ 200 := by decide +kernel
theorem Tr.short : ∀ t : Tr, t.fine → PyData.leavesShort 200 t.data = true
  | .num n, h => by
    obtain ⟨h1, h2⟩ := h
    have e := digit_short ⟨n.toNat, by omega⟩
    have e2 : ((n.toNat : Nat) : Int) = n := Int.toNat_of_nonneg h1
    rw [show (((⟨n.toNat, by omega⟩ : Fin 10).val : Nat) : Int) = n from e2] at e
    simpa [Tr.data, PyData.leavesShort] using e
  | .wd x, h => by
    have p := plain_word h
    simp only [Tr.data, PyData.leavesShort, ← Array.all_toList, List.all_eq_true, decide_eq_true_eq]
    intro c hc
    have := p c hc
    omega
  | .ch a b c d, h => by simp [Tr.data, PyData.leavesShort, PyData.leavesShortAll, Tr.short a h.1, Tr.short b h.2.1, Tr.short c h.2.2.1, Tr.short d h.2.2.2]
theorem Tr.weight_le : ∀ (n : Nat) (t : Tr), t.fine → t.deep ≤ n → t.data.weight ≤ 9 * 5 ^ n
  | n, .num k, h, _ => by
    have p : 1 ≤ 5 ^ n := Nat.pow_pos (by decide)
    have : k.natAbs < 2 ^ 4 := by
      obtain ⟨h1, h2⟩ := h
      omega
    simp only [Tr.data, PyData.weight]
    split
    · omega
    · have := small_log this
      omega
  | n, .wd x, h, _ => by
    have p : 1 ≤ 5 ^ n := Nat.pow_pos (by decide)
    have := h.2.1
    simp only [Tr.data, PyData.weight]
    have e : x.cps.size ≤ 8 := this
    omega
  | 0, .ch a b c d, _, h => by simp [Tr.deep] at h
  | n + 1, .ch a b c d, h, hd => by
    have q : a.deep ≤ n ∧ b.deep ≤ n ∧ c.deep ≤ n ∧ d.deep ≤ n := by
      simp only [Tr.deep] at hd
      omega
    have p : 1 ≤ 5 ^ n := Nat.pow_pos (by decide)
    have h1 := Tr.weight_le n a h.1 q.1
    have h2 := Tr.weight_le n b h.2.1 q.2.1
    have h3 := Tr.weight_le n c h.2.2.1 q.2.2.1
    have h4 := Tr.weight_le n d h.2.2.2 q.2.2.2
    simp only [Tr.data, PyData.weight, PyData.weightAll, Nat.pow_succ]
    omega
theorem Tr.shown_le {t : Tr} (h : t.fine) (hd : t.deep ≤ 3) : t.data.shown.length ≤ sizeLine := by
  have h1 := PyData.shown_le 200 (by decide) t.data (Tr.short t h)
  have h2 := Tr.weight_le 3 t h hd
  have h3 : (5 : Nat) ^ 3 = 125 := by decide
  rw [h3] at h2
  have h4 : (200 + 2) * t.data.weight + 200 ≤ 16777216 := by omega
  rw [sizeLine_eq]
  omega
/-- what repr tells of a value -/
inductive Rep (K : PySem.W.Frag) (H : Hp) : V → Str → Prop
  | dat {a : Addr} {dt : PyData} : Dp K H (.ref a) dt → dt.showable = true → dt.hasDict = false → dt.depth ≤ 20 → dt.shown.length ≤ sizeLine → Rep K H (.ref a) dt.shown
  | emp {a : Addr} : H a = some (.dK []) → Rep K H (.ref a) (PyData.dict []).shown
  | non : Rep K H .non "None"
  | bl (b : Bool) : Rep K H (.bl b) (if b = true then "True" else "False")
  | int {i : Int} : i.natAbs.log2 < 1920 → Rep K H (.int i) (toString i)
  | str {x : Str} : (reprText x).length ≤ sizeLine → Rep K H (.str x) (reprText x)
theorem rep_text {K : PySem.W.Frag} {H : Hp} {x : Str} (h : Plain x) (hl : x.length ≤ 1000) : Rep K H (.str x) (reprText x) := by
  refine .str ?_
  have := StrLaws.reprText_len x fun c hc => by
    have := h c hc
    have e : (16 : Nat) ^ 8 = 4294967296 := by decide
    omega
  rw [sizeLine_eq]
  omega
theorem rep_tree {K : PySem.W.Frag} {H : Hp} {v : V} {t : Tr} (h : TrAt H v t) (hf : t.fine) (hd : t.deep ≤ 3) : ∃ s, Rep K H v s := by
  cases h with
  | num n =>
    obtain ⟨h1, h2⟩ := hf
    have := small_log (n := n) (by omega)
    exact ⟨_, .int (by omega)⟩
  | wd x =>
    refine ⟨_, rep_text (plain_word hf) ?_⟩
    have := hf.2.1
    have e : x.length ≤ 8 := this
    omega
  | ch hp ha hb hc hdd =>
    have hT := TrAt.ch hp ha hb hc hdd
    refine ⟨_, .dat (Tr.dp hT) (Tr.showable _ hf) (Tr.noDict _) ?_ (Tr.shown_le hf hd)⟩
    refine Nat.le_trans (Nat.le_of_succ_le_succ (Tr.ddepth _)) (Nat.le_trans hd (by decide))
def rRepX (K : PySem.W.Frag) : List V → Hp → VK → Prop := fun xs H Q => ∃ (v : V) (t : Str), xs = [v] ∧ Rep K H v t ∧ Q (.str t) H
section
variable {X : Cx}
theorem call_reprX (hg : X.A.guards = some []) (hu : X.A.units + 64 < cLine) : CallR X (.builtin "repr") (rRepX X.K) := by
  intro pins s σ H xs us Q I r h
  obtain ⟨v, t, rfl, hR, q⟩ := h
  obtain ⟨u1, rfl, r1⟩ : ∃ u1, us = [u1] ∧ RelV v u1 := by
    cases r with
    | cons ra rr =>
      cases rr
      exact ⟨_, rfl, ra⟩
  cases hR with
  | dat hd hs hn hdp hz =>
    rename_i a dt
    obtain rfl : u1 = Value.ref a := r1
    obtain ⟨as, rd⟩ := Dp.reads I dt _ _ hd (show RelV (.ref a) (Value.ref a) from rfl)
    refine repr_of_reads' rd hs (fun z => by rw [hn] at z; cases z) hg (by omega) (fun b o z => z) (fun h' u tk hk => ?_) hz
    exact ⟨.str dt.shown, H, I.un (t' := tk) (Un.kept hk) (I.hok.kept hk), ⟨u, rfl⟩, q⟩
  | emp hd =>
    rename_i a
    obtain rfl : u1 = Value.ref a := r1
    have z := I.hok a _ hd
    simp only [L2.ObjOk] at z
    obtain ⟨_, ns, vs, kv, o, es, ep, ho, ex, od, _, pp, _⟩ := z
    cases kv
    have ee : es.toList = [] := by
      cases e : es.toList with
      | nil => rfl
      | cons x l => rw [e] at pp; cases pp
    have rd : Reads s.heap (.ref a) (.dict []) (a :: [] ++ []) := .dict ho ex.1 od (by rw [ee]; exact .nil) (by rw [ee]; exact .nil)
    refine repr_of_reads' rd rfl (fun _ m => ?_) hg (by show X.A.units + ((PyData.dict []).depth + 1) < cLine; have e : (PyData.dict []).depth ≤ 5 := by decide +kernel
                                                        omega) (fun b o z => z) (fun h' u tk hk => ?_) (by decide +kernel)
    · simp at m
      subst m
      simp at ns
    · exact ⟨.str (PyData.dict []).shown, H, I.un (t' := tk) (Un.kept hk) (I.hok.kept hk), ⟨u, rfl⟩, q⟩
  | non =>
    obtain rfl : u1 = Value.none := r1
    exact P.repr_of_none ⟨.str "None", H, I.tok _, ⟨_, rfl⟩, q⟩
  | bl b =>
    obtain rfl : u1 = Value.bool b := r1
    refine P.repr_of_bool ?_
    exact ⟨.str (if b = true then "True" else "False"), H, I.tok _, ⟨_, rfl⟩, q⟩
  | int hi =>
    obtain ⟨tk, rfl⟩ := r1
    rename_i i
    exact P.repr_of_int hi ⟨.str (toString i), H, I.tok _, ⟨_, rfl⟩, q⟩
  | str hx =>
    obtain ⟨tk, rfl⟩ := r1
    rename_i x
    exact P.repr_of_str ⟨.str (reprText x), H, I.tok _, ⟨_, rfl⟩, q⟩ hx
end
end TS
namespace TS
open PySem PySem.Spec PyProof.Rows PySem.W PySem.Calls L2
/-! isinstance(e, c), e the own error that is handled, with its dict -/
def rIsXd (K : Frag) (cls : Value) (d : Option Addr) (a : Addr) : List V → Hp → VK → Prop := fun xs H Q => ∃ (C dd : Addr) (fs : List (Str × V)) (c : V) (cv : Value) (b : Bool), xs = [.ref a, c] ∧ cls = .ref C ∧ d = some dd ∧ H dd = some (.xd fs) ∧
  IsX K C ∧ ClsV c cv ∧ kitOne K (.ref C) cv = some b ∧ Q (.bl b) H
theorem call_isXd {X : Cx} {a : Addr} {oe : Obj} {cls : Value} {d : Option Addr} {pn : List (Addr × Obj)} (hz : Zc cls d oe) (hf : ∃ vs, oe.data = .fields vs) : CallR (X.suite a ((a, oe) :: pn)) (.builtin "isinstance") (rIsXd X.K cls d a) := by
  intro pins s σ H xs us Q I r h
  obtain ⟨C, dd, fs, c, cv, b, rfl, rfl, rfl, ed, T, kc, ek, q⟩ := h
  obtain ⟨u1, u2, rfl, r1, r2⟩ := vals2 r
  have e2 := kc.eq r2
  subst e2
  obtain rfl : u1 = Value.ref a := r1
  have hp := (I.pin (a, oe) (by simp)).1
  have z := I.hok dd _ ed
  simp only [L2.ObjOk] at z
  obtain ⟨mA, hns, rel⟩ := z
  obtain ⟨od, hod, hl⟩ := lookIn_ns hns
  obtain ⟨vs, hvs⟩ := hf
  obtain ⟨z1, z2⟩ := hz
  have no : notCls oe = true := by
    unfold notCls
    rw [hvs]
  have J : InstAt s.heap a oe C (some od) := ⟨hp, z1, no, by rw [z2]; exact hod⟩
  exact kia_one (kitx_exc T.hcl T.x.ga T.x.gg T.x.exC T.ha T.hn T.htk T.hm) I.kIn J ek (fun z => nomatch z) fun tk => ⟨.bl b, H, I.tok tk, rfl, q⟩
end TS
namespace TS
open PySem PySem.Spec PyProof.Rows PySem.W PySem.Calls L2
/-- the def at f keeps sp where nothing is being shown (no repr under way) -/
structure FnG (P : Program) (w : World) (K : Frag) (mg : Str → Option Value) (base : Heap) (k : Nat) (f : Addr) (fd : FuncData) (ps : List Str) (sp : Sp) : Prop where
  len : ∀ vs H Q E, sp vs H Q E → vs.length = ps.length
  run : ∀ (A : Around) (outer : List Env) (s : Shared) (H : Hp) (args : Args) (us : List Value) (vs : List V) (Q : VK) (E : XK), A.guards = some [] → Room k A → Env0 P w K mg base A outer s H → BindsTo s fd args (ps.zip us) → Vals vs us → sp vs H Q E →
    codeAny (model P w) A (.call (.ref f) args) (CR CX0 outer P w H s Q E) s
section
variable {P : Program} {w : World} {K : Frag} {mg : Str → Option Value} {base : Heap}
theorem okG {x qual : Str} {st : Stmt} {f : Addr} {fd : FuncData} {N ps : List Str} {k : Nat} {sp : Sp} (F : Fun K x qual st f fd) (S : FnScope N ps (defScope st)) (len : ∀ vs H Q E, sp vs H Q E → vs.length = ps.length)
    (hbody : ∀ (cdv : Value) (A : Around) (outer : List Env) (s : Shared) (H : Hp) (vs : List V) (Q : VK) (E : XK), A.guards = some [] → Room k (A.deeper (envOfC qual (defScope st) s.heap.objs.size f cdv)) → sp vs H Q E →
      ∃ t, PSs (cxOf CX0 P w K mg base N qual (defScope st) f cdv A outer s H E).nox (defBody st) t ∧ t { nx := fun _ H' => Q .non H', rt := Q } (start N vs) H) : FnG P w K mg base (k + 1) f fd ps sp := by
  obtain ⟨oc, od, kV, doc, pm, an, cdv, ct, osl, rfl, lk, hcd⟩ := F.ex
  refine ⟨len, fun A outer s H args us vs Q E hg hr e0 hb r hsp => ?_⟩
  have hl := len _ _ _ _ hsp
  have KX : K.In s.heap := e0.mod.kin.keeps fun b o z => (e0.bs b o z).1
  have nolim : s.heap.NoLimit := e0.mod.nolimit.keeps fun b o z => (e0.bs b o z).1
  have kinds : ∀ y ∈ ps.zip us, (defScope st).names.lookup y.1 = some .local ∨ ((defScope st).names.lookup y.1 = some .cell ∧ ((cellsFrom (s.heap.objs.size + 1) (defScope st).names []).lookup y.1).isSome = true) := fun ⟨n, v⟩ hy => by
    rcases S.par n (List.of_mem_zip hy).1 with z | z
    · exact .inl z
    · exact .inr ⟨z, cellsFrom_some _ _ _ (.inl z)⟩
  refine codeAny_call_function hr.depth (KX _ _ lk) rfl S.co S.gen rfl (codeRec_of KX hcd) (hb _ _ _ _ ?_)
  refine wpAny_newFunctionEnv_cells S.kind kinds fun env he s1 ic => ?_
  subst he
  refine ⟨nolim.keeps ic.toInCall.keep, codeAny_func ?_⟩
  obtain ⟨t, ht, hq⟩ := hbody cdv A outer s H vs Q E hg (hr.deeper _) hsp
  have J : Inv (cxOf CX0 P w K mg base N qual (defScope st) f cdv A outer s H E) [] (start N vs) H s1 := inv_start S hr.hd e0 hl r ic
  refine wpAny_mono (ht.nox.run [] s1 (start N vs) H _ J hq) (fun fl s' hs => ?_) fun er s' hs => hs
  have fin : ∀ {σ' : L2.St} {H' : Hp} {v : V} {u : Value}, Inv (cxOf CX0 P w K mg base N qual (defScope st) f cdv A outer s H E) [] σ' H' s' → RelV v u → Q v H' → CE outer P w H s Q u s' :=
    fun {σ' H' v u} J' rv z => ⟨v, H', J'.os, J'.bare, J'.base, J'.hok, rv, z⟩
  cases fl with
  | ret u =>
    obtain ⟨v, σ', H', J', rv, z⟩ := hs
    exact fin J' rv z
  | next =>
    obtain ⟨σ', H', J', z⟩ := hs
    exact fin (v := V.non) (u := Value.none) J' rfl z
  | brk =>
    obtain ⟨_, _, _, z⟩ := hs
    exact False.elim z
  | cont =>
    obtain ⟨_, _, _, z⟩ := hs
    exact False.elim z
end
section
variable {X : Cx} {k : Nat} {f : Addr} {fd : FuncData} {ps : List Str} {sp : Sp} {E : XK} {x : Str} {p pos : Pos} {e : Expr} {es : List Expr} {t : TA}
theorem pe_callG (F : FnG X.prog X.w X.K X.mg X.base k f fd ps sp) (hG : X.A.guards = some []) (hr : Room k X.A) (hg : Gl X x) (hm : X.mg x = some (.ref f)) (hk : keepIn X.K (.ref f) = true) (hb : Binds X.K fd ps [])
    (ha : PA X (e :: es) t) (hdb : (x == ("__debug__" : Str)) = false := by decide) (he : starEach (e :: es) X.env = (false, eval e X.env) :: starEach es X.env := by rfl) (hpl : (backTo pos (starEach es X.env)).any (·.1) = false := by rfl) :
    PE X (.Call (.Name x p) (e :: es) [] pos) (tCall sp [] E t) := by
  refine ⟨fun pins s σ H Q I h => ?_⟩
  refine wpAny_Call_Name_kw (ld_glob I hg hm ?_ hdb)
  refine callWith_K (h₀ := X.base) I.ok.mod.kin hk (thn (ha.run pos pins s σ H _ I h) fun us s1 ⟨vs, H1, I1, r, q⟩ => ⟨I1.kIn, ?_⟩) he hpl
  have r2 : Vals (vs ++ []) (us ++ []) := r.append .nil
  have hl : (us ++ []).length = ps.length := by
    rw [← r2.length]
    exact F.len _ _ _ _ q
  refine wpAny_call (codeAny_mono (F.run X.A X.stack s1 H1 ⟨us, []⟩ (us ++ []) (vs ++ []) Q E hG hr I1.env0 (hb s1 us I1.kIn hl) r2 q) fun r' s' hq => ?_)
  cases r' with
  | error er => exact hq.elim
  | ok fl =>
    cases fl with
    | ret u => exact I1.after hq
    | next => exact False.elim hq
    | brk => exact False.elim hq
    | cont => exact False.elim hq
end
end TS
namespace TS
open PySem PySem.Spec PyProof.Rows PySem.W PySem.Calls L2
theorem law_callG {P : Program} {w : World} {K : Frag} {mg mb : Str → Option Value} {k : Nat} {fa a : Addr} {fd : FuncData} {x : Str} {sp : Sp} {s1 : Shared} {vs : List Value} {ns : List Int}
    (KX : K.In s1.heap) (hns : s1.heap.Ns mainGlobals mg) (hb : s1.heap.Ns builtinsNs mb) (hbb : ∀ x : Str, x ≠ "__name__" → mb x = bootBuiltins x) (hlim : s1.heap.NoLimit) (hg : s1.gens = #[])
    (ha : s1.heap.get? a = some { cls := .type "list", data := .seq vs.toArray }) (hi : IntsAre vs ns) (hl : ns.length ≤ sizeLine) (hr : Room k callerA)
    (F : ∀ base : Heap, K.In base → base.Ns mainGlobals mg → FnG P w K mg base k fa fd [x] sp) (hbind : ∀ (s : Shared) (u : Value), BindsTo s fd ⟨[u], []⟩ [(x, u)])
    (hsp : ∀ H : Hp, Only H → SqL K H a (ns.map V.int) → sp [.ref a] H (fun v _ => v = .bl true) fun _ _ _ => False) :
    codeAny (model P w) callerA (.call (.ref fa) ⟨[.ref a], []⟩) (fun r s' => r = .ok (.ret (.bool true)) ∧ OldK s1.heap s'.heap ∧ s'.os = s1.os ∧ AllBare s'.gens) s1 := by
  have rv := vals_ints hi
  have lenV := hi.length
  have core : ∀ H : Hp, Only H → SqL K H a (ns.map V.int) → HOk P w H s1.heap → (∀ b, H b ≠ none → b = a) → (H a ≠ none → K.lookup a = none) →
      codeAny (model P w) callerA (.call (.ref fa) ⟨[.ref a], []⟩) (fun r s' => r = .ok (.ret (.bool true)) ∧ OldK s1.heap s'.heap ∧ s'.os = s1.os ∧ AllBare s'.gens) s1 := by
    intro H hO hS hok hA hK
    have lay : ∀ {b : Addr} {o : Obj}, s1.heap.get? b = some o → H b = none → (hidT s1.heap H).get? b = some o := fun z n => hidT_get z n
    have dic : ∀ {b : Addr} {o : Obj} {es : Array DictEntry} {ep : Nat}, s1.heap.get? b = some o → o.data = .dict es ep → H b = none := fun {b o es ep} z y => by
      cases c : H b with
      | none => rfl
      | some u =>
        have e' : b = a := hA b (by rw [c]; simp)
        subst e'
        rw [ha] at z
        cases z
        have y' : Data.seq vs.toArray _ = Data.dict es ep := y
        cases y'
    have nsK : ∀ {b : Addr} {m : Str → Option Value}, s1.heap.Ns b m → (hidT s1.heap H).Ns b m := fun {b m} ⟨o, es, ep, z, y, r⟩ => ⟨o, es, ep, lay z (dic z y), y, r⟩
    have hKb : K.In (hidT s1.heap H) := fun b o z => lay (KX b o z) (by
      cases c : H b with
      | none => rfl
      | some u =>
        have e' : b = a := hA b (by rw [c]; simp)
        subst e'
        rw [hK (by rw [c]; simp)] at z
        cases z)
    have hM : Mod K mg (hidT s1.heap H) := ⟨hKb, nsK hns, ⟨mb, nsK hb, hbb⟩, let ⟨mc, h1, h2⟩ := hlim; ⟨mc, nsK h1, h2⟩⟩
    have e0 : Env0 P w K mg (hidT s1.heap H) callerA [] s1 H :=
      ⟨rfl, hM, fun b o z => of_hidT z, Nat.le_of_eq (hidT_size _ _), trivial, fun b z => absurd (show b ∈ ([] : List Addr) from z) (by simp), hok, .of_eq hg⟩
    have go := (F _ hKb (nsK hns)).run callerA [] s1 H ⟨[.ref a], []⟩ [.ref a] [.ref a] _ _ rfl hr e0 (hbind s1 (.ref a)) (.cons rfl .nil) (hsp H hO hS)
    refine codeAny_mono go fun r s' h => ?_
    cases r with
    | error er => exact h.elim
    | ok fl =>
      cases fl with
      | next => exact False.elim h
      | brk => exact False.elim h
      | cont => exact False.elim h
      | ret u =>
        obtain ⟨v, H', os, bare, un, hok', r', q⟩ := h
        have q' : v = .bl true := q
        subst q'
        obtain rfl : u = Value.bool true := r'
        refine ⟨rfl, OldK.of_keep fun b o z => ?_, os, bare⟩
        cases c : H b with
        | none => exact un.keep b o z c (fun y => absurd (show b ∈ ([] : List Addr) from y) (by simp)) (by simp)
        | some u =>
          rcases hO b with y | ⟨ob, xs, y⟩
          · rw [c] at y
            cases y
          · have y2 := un.frzs b ob _ y
            obtain ⟨g1, _⟩ := hok b _ y
            obtain ⟨g2, _⟩ := hok' b _ y2
            rw [z] at g1
            cases g1
            exact g2
  cases hk : K.lookup a with
  | some o =>
    have z := KX a o hk
    rw [ha] at z
    cases z
    exact core (fun _ => none) (fun _ => .inl rfl) (.inr ⟨_, vs.toArray, _, hk, rfl, rfl, rfl, by rw [List.size_toArray, lenV]; exact hl, by simpa using rv⟩)
      (fun b u z => by
        have z' : (none : Option HO) = some u := z
        cases z') (fun b z => absurd rfl z) fun z => absurd rfl z
  | none =>
    refine core (fun b => if b = a then some (.frz { cls := .type "list", data := .seq vs.toArray } (.lst (ns.map V.int))) else none) (fun b => ?_) (.inl (.inr ⟨{ cls := .type "list", data := .seq vs.toArray }, if_pos rfl⟩)) (fun b u z => ?_) (fun b z => ?_) fun _ => hk
    · by_cases y : b = a
      · exact .inr ⟨_, _, if_pos y⟩
      · exact .inl (if_neg y)
    · by_cases y : b = a
      · have z' := (if_pos y).symm.trans z
        cases z'
        subst y
        exact ⟨ha, by rw [List.length_map]; exact hl, vs, _, rv, ha⟩
      · have z' := (if_neg y).symm.trans z
        cases z'
    · by_cases y : b = a
      · exact y
      · exact absurd (if_neg y) z
/-- what a law promises: from a list of at most 63 ints True comes out -/
def spLaw (K : Frag) : Sp := fun vs H Q _ => ∃ (a : Addr) (ns : List Int), vs = [.ref a] ∧ SqL K H a (ns.map V.int) ∧ ns.length ≤ 63 ∧ ∀ H', Q (.bl true) H'
theorem walkG {l : OpenLaw} {k : Nat} {q : Program} {loose : List Str} {XP : (Str → Option Value) → Heap → Prop} {YP : World → Heap → Prop} {d : DefRec} {K : Params → Frag}
    (hn : l.most = some 63) (hdf : d.params.defaults = []) (hr : Room k callerA)
    (hY : ∀ (w : World) (h : Heap), YP w h → (K w.params).In h)
    (F : ∀ (w : World) (mg : Str → Option Value) (fa : Addr) (h : Heap), (K w.params).In h → h.Ns mainGlobals mg → mg d.name = some (.ref fa) →
      ∃ fd : FuncData, (∀ (s : Shared) (u : Value), BindsTo s fd ⟨[u], []⟩ [("script", u)]) ∧
        ∀ base : Heap, (K w.params).In base → base.Ns mainGlobals mg → FnG l.prog w (K w.params) mg base k fa fd ["script"] (spLaw (K w.params))) :
    WalkO q loose XP YP l.row.toRowW d [] (fun f vs => PySem.call f vs) := by
  refine Att.attach_call hn hdf fun w s0 s1 mg mb fa o pm cd doc a vs ns G Y ho hd hcd hmg hobj hints hlen hg => ?_
  have KX := hY w _ Y
  obtain ⟨fd, hb, hF⟩ := F w mg fa _ KX G.T.g hmg
  exact law_callG KX G.T.g G.T.b G.T.builtins G.T.nolimit hg hobj hints (Nat.le_trans hlen (by decide)) hr hF hb (fun H hO hS => ⟨a, ns, rfl, hS, hlen, fun _ => rfl⟩)
end TS
namespace TS
open PySem L2
abbrev sTold : Stmt := top 39
abbrev sDue : Stmt := top 40
theorem Rep.same {K : PySem.W.Frag} {H H' : Hp} {v : V} {t : Str} (h : Rep K H v t) (s : Same H H') : Rep K H' v t := by
  cases h with
  | dat hd a b c d => exact .dat (dp_same s _ _ hd) a b c d
  | emp h => exact .emp (s _ _ h)
  | non => exact .non
  | bl b => exact .bl b
  | int h => exact .int h
  | str h => exact .str h
theorem fine_words : ∀ {t : Tr}, t.fine → ∀ x ∈ t.words, WordOk x
  | .num _, _, x, h => by simp [Tr.words] at h
  | .wd y, hf, x, h => by
    simp [Tr.words] at h
    subst h
    exact hf
  | .ch a b c d, hf, x, h => by
    simp only [Tr.words, List.mem_append, List.not_mem_nil, or_false] at h
    rcases h with h | h | h | h
    · exact fine_words hf.1 x h
    · exact fine_words hf.2.1 x h
    · exact fine_words hf.2.2.1 x h
    · exact fine_words hf.2.2.2 x h
/-- what is told of a tree's value, by the words in order -/
def outL (kvs : List (Key × V)) (ws : List Str) (t : Tr) : List V := match firstBad kvs ws with
  | some x => [.str "name", .str (reprText x), .bl true, .bl false]
  | none => [.str "worth", .int (t.worth (rhoOf kvs))]
theorem firstBad_mem {kvs : List (Key × V)} {ws : List Str} {x : Str} (h : firstBad kvs ws = some x) : x ∈ ws := List.mem_of_find?_eq_some h
/-- the words of a tree, in order -/
def Ord (t : Tr) (ws : List Str) : Prop := ws.Perm (once t.words) ∧ PyProof.Rows.sortedS ws = true
theorem Ord.same {t : Tr} {ws ws' : List Str} (h : Ord t ws) (h' : Ord t ws') : ws = ws' := sortedS_same (h.1.trans h'.1.symm) h.2 h'.2
theorem Ord.mem {t : Tr} {ws : List Str} (h : Ord t ws) {x : Str} : x ∈ ws ↔ x ∈ t.words := h.1.mem_iff.trans (once_mem _ _)
section
variable {P : Program} {w : World} {K : PySem.W.Frag} {mg : Str → Option Value} {base : Heap}
def spTold3 (K : PySem.W.Frag) (C : Addr) : Sp := fun vs H Q _ => ∃ (p : Addr) (t : Tr) (y : V), vs = [.ref p, y] ∧ TermAt C H p t ∧
  ((∃ (d : Addr) (kvs : List (Key × V)), y = .ref d ∧ H d = some (.dK kvs) ∧ (∀ q ∈ kvs, CellV H q.2) ∧ ∀ ws H' l, Ord t ws → Same H H' → H' l = some (.lst (outL kvs ws t)) → Q (.ref l) H') ∨
   (∃ (ty : Value) (r : Str), TyX K H y ty ∧ PySem.W.kitOne K ty (.type "dict") = some false ∧ Rep K H y r ∧ ∀ H' l, Same H H' → H' l = some (.lst [.str "none", .str r]) → Q (.ref l) H'))
theorem scTold : FnScope ["term", "held", "e"] ["term", "held"] (defScope sTold) := ⟨rfl, rfl, rfl, by decide +kernel, rfl, by decide +kernel, by decide +kernel⟩
structure ErrF (P : Program) (w : World) (K : PySem.W.Frag) (mg : Str → Option Value) (base : Heap) (N NN TE : Addr) : Prop where
  EN : ErrC P w K mg base "NoTerm" "value" N
  EW : ErrC P w K mg base "NoName" "who" NN
  IW : IsX K NN
  nn : PySem.W.exmOne K (.ref N) (.ref N) = some true
  ww : PySem.W.exmOne K (.ref NN) (.ref NN) = some true
  nw : PySem.W.exmOne K (.ref N) (.ref NN) = some false
  mK : mg "KeyError" = none
  mT : mg "TiedError" = some (.ref TE)
  kK : PySem.W.kitOne K (.ref NN) (.type "KeyError") = some true
  kT : PySem.W.kitOne K (.ref NN) (.ref TE) = some false
theorem ok_told {C N NN TE fc f : Addr} {fdc fd2 fd : FuncData} {og : Obj} (F : Fun K "_law_told" "_law_told" sTold f fd) (T : BltT mg) (mr : mg "repr" = none) (TK : TermK K mg C) (Z : ErrF P w K mg base N NN TE)
    (cs : PySem.W.findIn K (.ref C) "__call__" = some (some (.ref fc))) (cf : PySem.W.isFn K (.ref fc) = true) (cg : K.lookup fc = some og) (cd : og.data = .func fd2) (bc : Binds K fdc ["self", "values"] []) (GC : FnOk P w K mg base (L2.CX P w) 5 fc fdc ["self", "values"] (spTCall K C N NN)) :
    FnG P w K mg base 6 f fd ["term", "held"] (spTold3 K C) := by
  refine okG F scTold (fun vs H Q E h => ?_) (fun cdv A outer s H vs Q E hG hr h => ?_)
  · obtain ⟨p, t, y, rfl, _⟩ := h
    rfl
  obtain ⟨p, t, y, rfl, ht, h⟩ := h
  have un := hr.un
  have hgS : ∀ a pn, (((cxOf CX0 P w K mg base ["term", "held", "e"] "_law_told" (defScope sTold) f cdv A outer s H E).nox.suite a pn)).A.guards = some [] := fun _ _ => hG
  have huS : ∀ a pn, (((cxOf CX0 P w K mg base ["term", "held", "e"] "_law_told" (defScope sTold) f cdv A outer s H E).nox.suite a pn)).A.units + 64 < cLine := fun _ _ => Nat.lt_of_le_of_lt (Nat.add_le_add_left (by decide) _) un
  have cR : ∀ a pn, CallR ((cxOf CX0 P w K mg base ["term", "held", "e"] "_law_told" (defScope sTold) f cdv A outer s H E).nox.suite a pn) (.builtin "repr") (rRepX K) := fun _ _ => call_reprX (hgS _ _) (huS _ _)
  have cI : ∀ (a : Addr) (oe : Obj) (cls : Value) (d : Option Addr) (pn : List (Addr × Obj)), Zc cls d oe → (∃ vs, oe.data = .fields vs) → CallR ((cxOf CX0 P w K mg base ["term", "held", "e"] "_law_told" (defScope sTold) f cdv A outer s H E).nox.suite a ((a, oe) :: pn)) (.builtin "isinstance") (rIsXd K cls d a) := fun _ _ _ _ _ hz hf => call_isXd hz hf
  refine ⟨_, pss_one (ps_try_clauses (i := 2) (Wout := fun _ _ _ _ => False) rfl rfl scTold.nd rfl rfl takes0
      (fun W pn xe tk _ => pss_one (ps_ret (pe_lst (pa_cons pe_str (pa_cons (pe_callObj (E := WE W) (pv 0) cs cf cg cd GC hr bc (fun σ => passAt tk σ) (pa_cons (pv 1) pa_nil)) pa_nil)))))
      (.next ⟨rfl, by decide +kernel, .inl Z.EW.mgC⟩
        (fun a oe cls d pn hz hf => pss_one (ps_ret (pe_lst (pa_cons pe_str (pa_cons (pe_callB (cR a ((a, oe) :: pn)) (by rfl) mr (by decide +kernel) (pa_cons (pe_xf Z.EW.xf Z.EW.no hz hf (pv 2)) pa_nil))
          (pa_cons (pe_callB (cI a oe cls d pn hz hf) (by rfl) T.isi bIsi (pa_cons (pv 2) (pa_cons (pe_bltn (by rfl) Z.mK (v := .ty "KeyError") (by decide +kernel) rfl) pa_nil)))
          (pa_cons (pe_callB (cI a oe cls d pn hz hf) (by rfl) T.isi bIsi (pa_cons (pv 2) (pa_cons (pe_glob rfl Z.mT (show RelV (.ref TE) (.ref TE) from rfl)) pa_nil))) pa_nil)))))))
      (.next ⟨rfl, by decide +kernel, .inl Z.EN.mgC⟩
        (fun a oe cls d pn hz hf => pss_one (ps_ret (pe_lst (pa_cons pe_str (pa_cons (pe_callB (cR a ((a, oe) :: pn)) (by rfl) mr (by decide +kernel) (pa_cons (pe_xf Z.EN.xf Z.EN.no hz hf (pv 2)) pa_nil)) pa_nil)))))
        .done))), ?_⟩
  obtain ⟨hf, hd, dx, v, l, qv, rv, ws, ns, h1, h2, h3, h4, h5, pw, sw, _⟩ := id ht
  refine ⟨_, rfl, p, rfl, _, rfl, ⟨dx, _, h1⟩, p, t, y, rfl, ht, ?_⟩
  rcases h with ⟨d, kvs, rfl, hD, hc, q⟩ | ⟨ty, r, hty, hk, hR, q⟩
  · refine .inl ⟨d, kvs, rfl, hD, hc, fun ws pw sw => ⟨fun x ex dd hdd => ?_, fun en => ?_⟩⟩
    · refine ⟨true, Z.ww, fun _ a ha => ?_, fun z => nomatch z⟩
      have s2 : Same H (upd H dd (.xd [("who", .str x)])) := same_upd hdd _
      have e1 : (upd H dd (.xd [("who", .str x)])) dd = some (.xd [("who", .str x)]) := upd_same
      generalize upd H dd (.xd [("who", .str x)]) = H2 at s2 e1
      have ox : WordOk x := fine_words hf x ((Ord.mem ⟨pw, sw⟩).mp (firstBad_mem ex))
      have rp : Rep K H2 (.str x) (reprText x) := rep_text (plain_word ox) (by have := ox.2.1; omega)
      refine ⟨_, rfl, rfl, rfl, dd, _, _, rfl, e1, rfl, _, _, rfl, rp, ?_⟩
      refine ⟨_, rfl, NN, dd, _, _, _, true, rfl, rfl, rfl, e1, Z.IW, .ty "KeyError", Z.kK, ?_⟩
      refine ⟨_, rfl, NN, dd, _, _, _, false, rfl, rfl, rfl, e1, Z.IW, .own TE, Z.kT, by show 4 ≤ sizeLine; decide, fun L hL => ?_⟩
      refine q ws _ L ⟨pw, sw⟩ (s2.trans (same_upd hL _)) ?_
      unfold outL
      rw [ex]
      exact upd_same
    · refine ⟨by show 2 ≤ sizeLine; decide, fun L hL => ?_⟩
      refine q ws _ L ⟨pw, sw⟩ (same_upd hL _) ?_
      unfold outL
      rw [en]
      exact upd_same
  · refine .inr ⟨ty, hty, hk, fun dd hdd => ?_⟩
    refine ⟨false, Z.nw, (fun z => nomatch z), fun _ => ⟨true, Z.nn, fun _ a ha => ?_, fun z => nomatch z⟩⟩
    have s2 : Same H (upd H dd (.xd [("value", y)])) := same_upd hdd _
    have e1 : (upd H dd (.xd [("value", y)])) dd = some (.xd [("value", y)]) := upd_same
    generalize upd H dd (.xd [("value", y)]) = H2 at s2 e1
    refine ⟨_, rfl, rfl, rfl, dd, _, y, rfl, e1, rfl, y, r, rfl, hR.same s2, by show 2 ≤ sizeLine; decide, fun L hL => ?_⟩
    exact q _ L (s2.trans (same_upd hL _)) upd_same
end
end TS
namespace TS
open PySem L2
abbrev sLLeaves : Stmt := top 35
abbrev sLWords : Stmt := top 36
abbrev sLDigits : Stmt := top 37
section
variable {P : Program} {w : World} {K : PySem.W.Frag} {mg : Str → Option Value} {base : Heap}
theorem small1000' {n : Nat} (h : n ≤ 1000) : n ≤ sizeLine := Nat.le_trans h (by decide)
/-! _law_tree_leaves -/
abbrev nmLLeaves : List Str := ["tree", "found", "part"]
theorem scLLeaves : FnScope nmLLeaves ["tree"] (defScope sLLeaves) := ⟨rfl, rfl, rfl, by decide +kernel, rfl, by decide +kernel, by decide +kernel⟩
theorem ok_lleaves {n : Nat} {f : Addr} {fd : FuncData} (F : Fun K "_law_tree_leaves" "_law_tree_leaves" sLLeaves f fd) (T : BltT mg) (b : Binds K fd ["tree"] []) (m : mg "_law_tree_leaves" = some (.ref f)) (G : FnOk P w K mg base CX0 n f fd ["tree"] (spLeaves n)) :
    FnOk P w K mg base CX0 (n + 1) f fd ["tree"] (spLeaves (n + 1)) := by
  refine F.ok scLLeaves (fun vs H Q E h => ?_) (fun cdv A outer s H vs Q E hr h => ?_)
  · obtain ⟨v, t, rfl, _⟩ := h
    rfl
  obtain ⟨v, t, rfl, ht, hd, hlen, q⟩ := h
  refine ⟨_, pss_cons (ps_if (pt_not (pt_val (pe_callB call_isi (by rfl) T.isi bIsi (pa_cons (pv 0) (pa_cons (pe_bltn (by rfl) T.tup (v := .ty "tuple") (by decide +kernel) rfl) pa_nil)))))
      (pss_one (ps_ret (pe_lst (pa_cons (pv 0) pa_nil)))) pss_nil)
    (pss_cons (ps_set (i := 1) scLLeaves.nd rfl (.inl rfl) (pe_lst pa_nil))
    (pss_cons (ps_for PassesOwn.never rfl (pi_tup (pv 0)) (pg_name (i := 2) scLLeaves.nd rfl (Or.inl rfl)) (pss_one (ps_set (i := 1) scLLeaves.nd rfl (.inl rfl) (pe_op op_cat (pv 1) (pe_call G hr rfl m F.kp b .nil pass0 (pa_cons (pv 2) pa_nil))))))
    (pss_one (ps_ret (pv 1))))), ?_⟩
  obtain ⟨u, c, hty, hk, hc⟩ := isT (K := K) ht
  refine ⟨_, rfl, _, _, _, _, _, rfl, .ty "tuple", hty, hk, _, rfl, ?_⟩
  rcases hc with ⟨rfl, a, b', c, d, rfl⟩ | ⟨rfl, hc⟩
  · refine iteF ?_
    cases ht with
    | ch hp ha hb hc hdd =>
      rename_i p y0 y1 y2 y3
      have dd : a.deep ≤ n ∧ b'.deep ≤ n ∧ c.deep ≤ n ∧ d.deep ≤ n := by
        simp only [Tr.deep] at hd
        omega
      have ll : a.leaves.length + b'.leaves.length + c.leaves.length + d.leaves.length ≤ 1000 := by
        simp only [Tr.leaves, List.length_append, List.length_nil] at hlen
        omega
      refine ⟨by show 0 ≤ sizeLine; decide, fun l0 hl0 => ?_⟩
      have s0 : Same H (upd H l0 (.lst [])) := same_upd hl0 _
      refine ⟨_, rfl, p, rfl, ⟨_, SqT.of (s0 _ _ hp)⟩, for_tup (K := K) (a := p) (xs := [y0, y1, y2, y3]) (fun i σ' H1 => ∃ (l : Addr) (o : Option V), σ' = [some (.ref p), some (.ref l), o] ∧ Same H H1 ∧ H l = none ∧ H1 l = some (.lst ([a.leaves, b'.leaves, c.leaves, d.leaves].take i).flatten)) ⟨l0, none, rfl, s0, hl0, upd_same⟩ (fun i σ' H1 _ ⟨_, _, _, s1, _⟩ => SqT.of (s1 _ _ hp)) ?_ ?_⟩
      · rintro i x σ' H1 hx ⟨l, o, rfl, s1, nl, hl⟩
        rcases i with _ | _ | _ | _ | i
        · cases hx
          refine ⟨_, rfl, _, rfl, _, a, rfl, ha.same s1, dd.1, by omega, fun r H2 g2 nr hr2 => ?_⟩
          refine ⟨_, _, _, _, rfl, rfl, g2 _ _ hl, hr2, small1000' (by simp; omega), fun q' hq' => ?_⟩
          have s2 := s1.trans g2
          refine ⟨q', _, rfl, s2.trans (same_upd hq' _), s2.free hq', ?_⟩
          rw [upd_same]
          simp
        · cases hx
          refine ⟨_, rfl, _, rfl, _, b', rfl, hb.same s1, dd.2.1, by omega, fun r H2 g2 nr hr2 => ?_⟩
          refine ⟨_, _, _, _, rfl, rfl, g2 _ _ hl, hr2, small1000' (by simp; omega), fun q' hq' => ?_⟩
          have s2 := s1.trans g2
          refine ⟨q', _, rfl, s2.trans (same_upd hq' _), s2.free hq', ?_⟩
          rw [upd_same]
          simp
        · cases hx
          refine ⟨_, rfl, _, rfl, _, c, rfl, hc.same s1, dd.2.2.1, by omega, fun r H2 g2 nr hr2 => ?_⟩
          refine ⟨_, _, _, _, rfl, rfl, g2 _ _ hl, hr2, small1000' (by simp; omega), fun q' hq' => ?_⟩
          have s2 := s1.trans g2
          refine ⟨q', _, rfl, s2.trans (same_upd hq' _), s2.free hq', ?_⟩
          rw [upd_same]
          simp
        · cases hx
          refine ⟨_, rfl, _, rfl, _, d, rfl, hdd.same s1, dd.2.2.2, by omega, fun r H2 g2 nr hr2 => ?_⟩
          refine ⟨_, _, _, _, rfl, rfl, g2 _ _ hl, hr2, small1000' (by simp; omega), fun q' hq' => ?_⟩
          have s2 := s1.trans g2
          refine ⟨q', _, rfl, s2.trans (same_upd hq' _), s2.free hq', ?_⟩
          rw [upd_same]
          simp
        · simp at hx
      · rintro σ' H1 ⟨l, o, rfl, s1, nl, hl⟩
        exact ⟨_, rfl, q l H1 s1 nl hl⟩
  · refine iteT ?_
    refine ⟨_, rfl, (by show 1 ≤ sizeLine; decide), fun r hr' => ?_⟩
    have e : t.leaves = [v] := by
      rcases hc with ⟨k, rfl, rfl⟩ | ⟨x, rfl, rfl⟩ <;> rfl
    refine q r _ (same_upd hr' _) hr' ?_
    rw [upd_same, e]
end
end TS
namespace TS
open PySem L2
section
variable {P : Program} {w : World} {K : PySem.W.Frag} {mg : Str → Option Value} {base : Heap}
/-- [e for x in list], whose element is a call that changes nothing -/
theorem lc_mapL {p D : Addr} {xs ys : List V} {k : Nat} {te : TE} {σ : St} {H : Hp} {Qd : Hp → Prop} (hp : H p = some (.lst xs)) (hl : ys.length = xs.length) (h6 : xs.length ≤ 1000) (hD : H D = none)
    (hw : ∀ v, wipe ((wipe σ [k]).set k v) [k] = wipe σ [k])
    (step : ∀ (i : Nat) (x y : V) (H1 : Hp) (R : VK), xs[i]? = some x → ys[i]? = some y → Same H H1 → (∀ H2, Same H1 H2 → R y H2) → te ((wipe σ [k]).set k (some x)) H1 R)
    (hd : ∀ H1, Same H H1 → H1 D = some (.lst ys) → Qd H1) :
    ∃ W : Nat → Nat → Hp → Prop, (∃ m, W 0 m (upd H D (.lst []))) ∧ ∀ i m H, W i m H →
      ((Itl K p).stop i H ∧ Qd H) ∨ ((Itl K p).go i H ∧ ∃ Nx : Hp → Prop, (∀ H', Nx H' → ∃ m', m' < m ∧ W (i + 1) m' H') ∧ ∀ x H', (Itl K p).yld i H x H' → gName k x (wipe σ [k]) H' fun σ2 H2 => wipe σ2 [k] = wipe σ [k] ∧ tYes σ2 H2 fun b H3 =>
        if b = true then te σ2 H3 fun y H4 => ∃ acc, H4 D = some (.lst acc) ∧ acc.length < sizeLine ∧ Nx (upd H4 D (.lst (acc ++ [y]))) else Nx H3) := by
  refine lc_list (K := K) (a := p) (xs := xs) (fun i H1 => Same H H1 ∧ H1 D = some (.lst (ys.take i))) ⟨same_upd hD _, upd_same⟩ (fun i H1 _ z => SqL.of (z.1 _ _ hp)) (fun i x H1 hx z => ?_) (fun H1 z => ?_)
  · obtain ⟨s1, d1⟩ := z
    have hi : i < xs.length := (List.getElem?_eq_some_iff.mp hx).1
    have hy : ys[i]? = some ys[i] := List.getElem?_eq_getElem (by omega)
    refine ⟨hw _, ?_⟩
    unfold tYes
    dsimp only
    rw [if_pos rfl]
    refine step i x ys[i] H1 _ hx hy s1 fun H2 s2 => ?_
    refine ⟨ys.take i, s2 _ _ d1, ?_, ?_⟩
    · rw [List.length_take]
      exact Nat.lt_of_le_of_lt (Nat.le_trans (Nat.min_le_right _ _) (by rw [hl]; exact h6)) (by decide)
    · refine ⟨fun b o q => ?_, ?_⟩
      · rw [upd_ne (ne_of_none q hD)]
        exact s2 _ _ (s1 _ _ q)
      · rw [upd_same, List.take_succ, hy]
        rfl
  · obtain ⟨s1, d1⟩ := z
    rw [List.take_of_length_le (by omega)] at d1
    exact hd H1 s1 d1
/-! _law_tree_words, _law_tree_digits -/
def spLWords : Sp := fun vs H Q _ => ∃ (v : V) (t : Tr), vs = [v] ∧ TrAt H v t ∧ t.deep ≤ 3 ∧ ∀ (H' : Hp) (l : Addr) (ws : List Str), Same H H' → H l = none → H' l = some (.lst (ws.map V.str)) → ws.Perm (once t.words) → PyProof.Rows.sortedS ws = true → Q (.ref l) H'
def spLDigits : Sp := fun vs H Q _ => ∃ (v : V) (t : Tr), vs = [v] ∧ TrAt H v t ∧ t.deep ≤ 3 ∧ ∀ (H' : Hp) (l : Addr) (ns : List Int), Same H H' → H l = none → H' l = some (.lst (ns.map V.int)) → ns.Perm (once t.nums) → ns.Pairwise (· ≤ ·) → Q (.ref l) H'
abbrev nmLWords : List Str := ["tree", "leaf"]
theorem scLWords : FnScope nmLWords ["tree"] (defScope sLWords) := ⟨rfl, rfl, rfl, by decide +kernel, rfl, by decide +kernel, by decide +kernel⟩
theorem scLDigits : FnScope nmLWords ["tree"] (defScope sLDigits) := ⟨rfl, rfl, rfl, by decide +kernel, rfl, by decide +kernel, by decide +kernel⟩
theorem isI_kit {H : Hp} {t : Tr} {v : V} (h : v ∈ t.leaves) : ∃ u, TyX K H v u ∧ PySem.W.kitOne K u (.type "int") = some (!isS v) := by
  rcases leaves_kind t v h with ⟨x, rfl⟩ | ⟨n, rfl⟩
  · exact ⟨_, .base (.str x), kit_ty (r := false) (by decide +kernel)⟩
  · exact ⟨_, .base (.int n), kit_ty (r := true) (by decide +kernel)⟩
theorem ok_lwords {f : Addr} {fd : FuncData} (F : Fun K "_law_tree_words" "_law_tree_words" sLWords f fd) (T : BltT mg) (D1 : Has P w K mg base "_law_tree_leaves" 3 ["tree"] (spLeaves 3)) : FnOk P w K mg base CX0 4 f fd ["tree"] spLWords := by
  obtain ⟨f1, fd1, m1, k1, b1, G1⟩ := D1
  refine F.ok scLWords (fun vs H Q E h => ?_) (fun cdv A outer s H vs Q E hr h => ?_)
  · obtain ⟨v, t, rfl, _⟩ := h
    rfl
  obtain ⟨v, t, rfl, ht, hd, q⟩ := h
  refine ⟨_, pss_one (ps_ret (pe_callB (cr_sortX (by rfl)) (by rfl) T.sorted (by decide +kernel) (pa_cons (pe_callTy (cr_setL (by rfl)) (by rfl) T.set (by decide +kernel) (pa_cons
    (pe_lc (own := [("leaf", 1)]) (g := gName 1) (tt := tTest (tCB (rIsi K) (tCons (tVar 1) (tCons (tC (.ty "str")) tNil)))) (by rfl) scLWords.nd (pi_list (pe_call G1 hr rfl m1 k1 b1 .nil pass0 (pa_cons (pv 0) pa_nil))) (blkOk_by (own := [("leaf", 1)]) (N := nmLWords) (sc := defScope sLWords) (by decide +kernel)) (fun _ _ _ _ _ => pg_name (i := 1) scLWords.nd rfl (Or.inl rfl))
        (fun _ _ _ _ _ => pts_one (pt_val (pe_callB call_isi (by rfl) T.isi bIsi (pa_cons (pv 1) (pa_cons (pe_bltn (by rfl) T.str (v := .ty "str") (by decide +kernel) rfl) pa_nil))))) (fun _ _ _ _ _ => pv 1)) pa_nil)) pa_nil))), ?_⟩
  have l16 := leaves16 hd
  have lw := filt_words t
  refine ⟨_, rfl, v, t, rfl, ht, hd, by omega, fun l H1 g1 nl hl => ?_⟩
  refine ⟨l, rfl, ⟨_, SqL.of hl⟩, fun D hD => lc_filtL isS hl (by omega) hD (fun _ => rfl) (fun _ => rfl) (fun i y H2 R hy sy r => ?_) (fun H2 g2 d2 => ?_)⟩
  · obtain ⟨u, ty, ky⟩ := isS_kit (K := K) (H := H2) (List.mem_of_getElem? hy)
    exact ⟨_, rfl, _, _, _, _, _, rfl, .ty "str", ty, ky, _, rfl, r⟩
  rw [leaves_words] at d2
  refine ⟨D, _, rfl, .of d2, (by show (t.words.map V.str).length + 1 < 4096; rw [List.length_map]; omega), .inl ⟨t.words, rfl, fun p hp => ⟨p, rfl, .inl ⟨once t.words, upd_same, Nat.lt_of_le_of_lt (once_len _) (by omega), fun out r pm so hr' => ?_⟩⟩⟩⟩
  have g3 : Same H2 (upd H2 p (SetS P w p (once t.words))) := same_upd hp _
  have g4 := g3.trans (same_upd hr' (.lst (out.map V.str)))
  exact q _ r out (g1.trans (g2.trans g4)) (g1.free (g2.free (g3.free hr'))) upd_same pm so
theorem ok_ldigits {f : Addr} {fd : FuncData} (F : Fun K "_law_tree_digits" "_law_tree_digits" sLDigits f fd) (T : BltT mg) (D1 : Has P w K mg base "_law_tree_leaves" 3 ["tree"] (spLeaves 3)) : FnOk P w K mg base CX0 4 f fd ["tree"] spLDigits := by
  obtain ⟨f1, fd1, m1, k1, b1, G1⟩ := D1
  refine F.ok scLDigits (fun vs H Q E h => ?_) (fun cdv A outer s H vs Q E hr h => ?_)
  · obtain ⟨v, t, rfl, _⟩ := h
    rfl
  obtain ⟨v, t, rfl, ht, hd, q⟩ := h
  refine ⟨_, pss_one (ps_ret (pe_callB (cr_sortX (by rfl)) (by rfl) T.sorted (by decide +kernel) (pa_cons (pe_callTy (cr_setL (by rfl)) (by rfl) T.set (by decide +kernel) (pa_cons
    (pe_lc (own := [("leaf", 1)]) (g := gName 1) (tt := tTest (tCB (rIsi K) (tCons (tVar 1) (tCons (tC (.ty "int")) tNil)))) (by rfl) scLDigits.nd (pi_list (pe_call G1 hr rfl m1 k1 b1 .nil pass0 (pa_cons (pv 0) pa_nil))) (blkOk_by (own := [("leaf", 1)]) (N := nmLWords) (sc := defScope sLDigits) (by decide +kernel)) (fun _ _ _ _ _ => pg_name (i := 1) scLDigits.nd rfl (Or.inl rfl))
        (fun _ _ _ _ _ => pts_one (pt_val (pe_callB call_isi (by rfl) T.isi bIsi (pa_cons (pv 1) (pa_cons (pe_bltn (by rfl) T.int (v := .ty "int") (by decide +kernel) rfl) pa_nil))))) (fun _ _ _ _ _ => pv 1)) pa_nil)) pa_nil))), ?_⟩
  have l16 := leaves16 hd
  have ln := filt_nums t
  refine ⟨_, rfl, v, t, rfl, ht, hd, by omega, fun l H1 g1 nl hl => ?_⟩
  refine ⟨l, rfl, ⟨_, SqL.of hl⟩, fun D hD => lc_filtL (fun y => !isS y) hl (by omega) hD (fun _ => rfl) (fun _ => rfl) (fun i y H2 R hy sy r => ?_) (fun H2 g2 d2 => ?_)⟩
  · obtain ⟨u, ty, ky⟩ := isI_kit (K := K) (H := H2) (List.mem_of_getElem? hy)
    exact ⟨_, rfl, _, _, _, _, _, rfl, .ty "int", ty, ky, _, rfl, r⟩
  rw [leaves_nums] at d2
  refine ⟨D, _, rfl, .of d2, (by show (t.nums.map V.int).length + 1 < 4096; rw [List.length_map]; omega), .inr ⟨t.nums, rfl, fun p hp => ⟨p, rfl, .inr ⟨once t.nums, upd_same, Nat.lt_of_le_of_lt (once_len _) (by omega), fun out r pm so hr' => ?_⟩⟩⟩⟩
  have g3 : Same H2 (upd H2 p (SetI P w p (once t.nums))) := same_upd hp _
  have g4 := g3.trans (same_upd hr' (.lst (out.map V.int)))
  exact q _ r out (g1.trans (g2.trans g4)) (g1.free (g2.free (g3.free hr'))) upd_same pm so
end
end TS
namespace TS
open PySem L2
section
variable {P : Program} {w : World} {K : PySem.W.Frag} {mg : Str → Option Value} {base : Heap}
def spDue3 : Sp := fun vs H Q _ => ∃ (v : V) (t : Tr) (d : Addr) (kvs : List (Key × V)), vs = [v, .ref d] ∧ TrAt H v t ∧ t.fine ∧ t.deep ≤ 3 ∧ H d = some (.dK kvs) ∧ (∀ q ∈ kvs, CellV H q.2) ∧
  ∀ ws H' l, Ord t ws → Same H H' → H' l = some (.lst (outL kvs ws t)) → Q (.ref l) H'
theorem scDue : FnScope ["tree", "held", "word"] ["tree", "held"] (defScope sDue) := ⟨rfl, rfl, rfl, by decide +kernel, rfl, by decide +kernel, by decide +kernel⟩
theorem ok_due {f : Addr} {fd : FuncData} (F : Fun K "_law_due" "_law_due" sDue f fd) (T : BltT mg) (mr : mg "repr" = none) (D1 : Has P w K mg base "_law_tree_words" 4 ["tree"] spLWords) (D2 : Has P w K mg base "_law_tree_worth" 3 ["tree", "held"] (spVal 3)) :
    FnG P w K mg base 5 f fd ["tree", "held"] spDue3 := by
  obtain ⟨f1, fd1, m1, k1, b1, G1⟩ := D1
  obtain ⟨f2, fd2, m2, k2, b2, G2⟩ := D2
  refine okG F scDue (fun vs H Q E h => ?_) (fun cdv A outer s H vs Q E hG hr h => ?_)
  · obtain ⟨v, t, d, kvs, rfl, _⟩ := h
    rfl
  obtain ⟨v, t, d, kvs, rfl, ht, hf, hd, hD, hc, q⟩ := h
  have hu := hu_of hr
  have hu64 : (cxOf CX0 P w K mg base ["tree", "held", "word"] "_law_due" (defScope sDue) f cdv A outer s H E).nox.A.units + 64 < cLine := by
    have := hr.un
    exact Nat.lt_of_le_of_lt (Nat.add_le_add_left (by decide) _) this
  have r3 : Room 3 _ := hr.mono (by decide)
  refine ⟨_, pss_cons (ps_for PassesOwn.never rfl (pi_list (pe_call G1 hr rfl m1 k1 b1 .nil pass0 (pa_cons (pv 0) pa_nil))) (pg_name (i := 2) scDue.nd rfl (.inl rfl))
      (pss_one (ps_if (PW.pt (pw_or (pt_cmp (pc_dnotin hu (pv 2) (pv 1)))
          (pw_or (pt_not (pt_val (pe_callB call_isi (by rfl) T.isi bIsi (pa_cons (pe_dget hu (pv 1) (pv 2) (fun _ _ => rfl)) (pa_cons (pe_bltn (by rfl) T.int (v := .ty "int") (by decide +kernel) rfl) pa_nil)))))
          (pw_or1 (pt_val (pe_callB call_isi (by rfl) T.isi bIsi (pa_cons (pe_dget hu (pv 1) (pv 2) (fun _ _ => rfl)) (pa_cons (pe_bltn (by rfl) T.bool (v := .ty "bool") (by decide +kernel) rfl) pa_nil))))))))
        (pss_one (ps_ret (pe_lst (pa_cons pe_str (pa_cons (pe_callB (call_reprX hG hu64) (by rfl) mr (by decide +kernel) (pa_cons (pv 2) pa_nil)) (pa_cons pe_bl (pa_cons pe_bl pa_nil))))))) pss_nil)))
    (pss_one (ps_ret (pe_lst (pa_cons pe_str (pa_cons (pe_call G2 r3 rfl m2 k2 b2 .nil pass0 (pa_cons (pv 0) (pa_cons (pv 1) pa_nil))) pa_nil))))), ?_⟩
  refine ⟨_, rfl, v, t, rfl, ht, hd, fun H1 l ws s1 nl hl pw sw => ?_⟩
  have hD1 := s1 _ _ hD
  have o1 : Ord t ws := ⟨pw, sw⟩
  refine ⟨l, rfl, ⟨_, SqL.of hl⟩, for_list (K := K) (a := l) (xs := ws.map V.str) (fun i σ' H' => H' = H1 ∧ (∃ j2 : Option V, σ' = [some v, some (.ref d), j2]) ∧ ∀ y ∈ ws.take i, isNumO (atS kvs y) = true) ⟨rfl, ⟨_, rfl⟩, by simp⟩ (fun i σ' H' _ z => ?_) ?_ ?_⟩
  · obtain ⟨rfl, _⟩ := z
    exact SqL.of hl
  · rintro i x σ' H' hx ⟨rfl, ⟨j2, rfl⟩, pre⟩
    rw [List.getElem?_map] at hx
    cases ex : ws[i]? with
    | none =>
      rw [ex] at hx
      cases hx
    | some z =>
      rw [ex] at hx
      cases hx
      have oz : WordOk z := fine_words hf z (o1.mem.mp (List.mem_of_getElem? ex))
      have rp : Rep K H' (.str z) (reprText z) := rep_text (plain_word oz) (by have := oz.2.1; omega)
      have bad : isNumO (atS kvs z) = false → ∀ L, H' L = none → Q (.ref L) (upd H' L (.lst [.str "name", .str (reprText z), .bl true, .bl false])) := fun eb L hL => by
        refine q ws _ L o1 (s1.trans (same_upd hL _)) ?_
        unfold outL
        rw [firstBad_at ex pre eb]
        exact upd_same
      refine ⟨_, rfl, _, rfl, d, _, rfl, dget_s (.inl hD1) rfl, _, rfl, ?_⟩
      cases eo : atS kvs z with
      | none => exact iteT (iteT ⟨_, rfl, _, _, rfl, rp, by show 4 ≤ sizeLine; decide, fun L hL => bad (by rw [eo]; rfl) L hL⟩)
      | some y =>
        obtain ⟨q2, hq2, e2⟩ := val_mem eo
        have cy : CellV H' y := e2 ▸ (hc q2 hq2).same s1
        obtain ⟨ty, a, b, hty, ka, kb, e⟩ := cy.kit (K := K)
        refine iteF ⟨_, rfl, _, rfl, d, y, rfl, dget_s (.inl hD1) eo, _, _, _, _, _, rfl, .ty "int", hty, ka, _, rfl, ?_⟩
        have eN : isNumO (atS kvs z) = (a && !b) := by
          rw [eo, e]
          rfl
        cases a with
        | false => exact iteT (iteT ⟨_, rfl, _, _, rfl, rp, by show 4 ≤ sizeLine; decide, fun L hL => bad eN L hL⟩)
        | true =>
          refine iteF ⟨_, rfl, _, rfl, d, y, rfl, dget_s (.inl hD1) eo, _, _, _, _, _, rfl, .ty "bool", hty, kb, _, rfl, ?_⟩
          cases b with
          | true => exact iteT ⟨_, rfl, _, _, rfl, rp, by show 4 ≤ sizeLine; decide, fun L hL => bad eN L hL⟩
          | false =>
            refine iteF ⟨rfl, ⟨_, rfl⟩, fun y hy => ?_⟩
            rw [List.take_succ, ex] at hy
            rcases List.mem_append.mp hy with hy | hy
            · exact pre y hy
            · simp at hy
              subst hy
              exact eN
  · rintro σ' H' ⟨rfl, ⟨j2, rfl⟩, all⟩
    rw [List.length_map, List.take_length] at all
    have wsall : ∀ x ∈ t.words, atS kvs x = some (.int (rhoOf kvs x)) := fun x hx => rho_at (all x (o1.mem.mpr hx))
    refine ⟨_, rfl, _, rfl, v, t, d, kvs, rhoOf kvs, rfl, ht.same s1, hd, hD1, wsall, by show 2 ≤ sizeLine; decide, fun L hL => ?_⟩
    refine q ws _ L o1 (s1.trans (same_upd hL _)) ?_
    unfold outL
    rw [firstBad_none all]
    exact upd_same
end
end TS
namespace TS
open PySem L2
/-! dicts as lists of pairs: dict(pairs), what is stored, a renaming by a dict -/
theorem length_old {kvs : List (Key × V)} {k : Key} {v u : V} (h : valV kvs k = some u) : (putK kvs k v).length = kvs.length := by
  unfold putK
  rw [valV_any, h]
  simp
theorem put_all {φ : V → Prop} {kvs : List (Key × V)} {k : Key} {v : V} (h : ∀ q ∈ kvs, φ q.2) (hv : φ v) : ∀ q ∈ putK kvs k v, φ q.2 := by
  unfold putK
  intro q hq
  split at hq
  · obtain ⟨p, hp, rfl⟩ := List.mem_map.mp hq
    split
    · exact hv
    · exact h p hp
  · rcases List.mem_append.mp hq with hq | hq
    · exact h q hq
    · simp at hq
      subst hq
      exact hv
theorem merge_all {φ : V → Prop} : ∀ (more acc : List (Key × V)), (∀ q ∈ acc, φ q.2) → (∀ q ∈ more, φ q.2) → ∀ q ∈ mergeK acc more, φ q.2
  | [], acc, h, _ => h
  | p :: r, acc, h, hm => by
    show ∀ q ∈ mergeK (putK acc p.1 p.2) r, φ q.2
    exact merge_all r _ (put_all h (hm p (by simp))) fun q hq => hm q (by simp [hq])
theorem merge_len : ∀ (more acc : List (Key × V)), (mergeK acc more).length ≤ acc.length + more.length := length_mergeK
/-- the value is a function of the key -/
theorem merge_fun (f : Key → V) (k : Key) : ∀ (more acc : List (Key × V)), (∀ q ∈ more, q.2 = f q.1) → (k ∈ more.map (fun q => q.1) ∨ valV acc k = some (f k)) → valV (mergeK acc more) k = some (f k)
  | [], acc, _, h => by
    rcases h with h | h
    · simp at h
    · exact h
  | p :: r, acc, hm, h => by
    show valV (mergeK (putK acc p.1 p.2) r) k = _
    refine merge_fun f k r _ (fun q hq => hm q (by simp [hq])) ?_
    by_cases e : k = p.1
    · refine .inr ?_
      rw [valV_put, if_pos e, e, hm p (by simp)]
    · rcases h with h | h
      · simp only [List.map_cons, List.mem_cons] at h
        exact .inl (h.resolve_left e)
      · refine .inr ?_
        rw [valV_put, if_neg e, h]
/-- a dict from numbers to unlike great ones -/
structure Oth (B : Int) (ks : List (Key × V)) (g : Int → Option Int) (ns : List Int) : Prop where
  look : ∀ n, valV ks (Sum.inl n) = (g n).map V.int
  big : ∀ n j, g n = some j → B ≤ j
  lt : ∀ n j, g n = some j → j < B + ks.length
  inj : ∀ n n' j, g n = some j → g n' = some j → n = n'
  off : ∀ n ∈ ns, g n = none
theorem Oth.nil {B : Int} {ns : List Int} : Oth B [] (fun _ => none) ns := ⟨fun _ => rfl, fun _ _ h => by simp at h, fun _ _ h => by simp at h, fun _ _ _ h => by simp at h, fun _ _ => rfl⟩
theorem len_new {kvs : List (Key × V)} {k : Key} {v : V} (h : valV kvs k = none) : (putK kvs k v).length = kvs.length + 1 := by
  rw [putK_new v h]
  simp
theorem Oth.new {B : Int} {ks : List (Key × V)} {g : Int → Option Int} {ns : List Int} (o : Oth B ks g ns) {n0 : Int} (h0 : g n0 = none) (h1 : n0 ∉ ns) :
    Oth B (putK ks (Sum.inl n0) (.int (B + ks.length))) (fun n => if n = n0 then some (B + ks.length) else g n) ns := by
  have hn : valV ks (Sum.inl n0) = none := by rw [o.look, h0]; rfl
  refine ⟨fun n => ?_, fun n j h => ?_, fun n j h => ?_, fun n n' j h h' => ?_, fun n hn' => ?_⟩
  · rw [valV_put]
    by_cases e : n = n0
    · subst e
      simp
    · rw [if_neg (fun z => e (Sum.inl.inj z)), o.look, if_neg e]
  · by_cases e : n = n0
    · rw [if_pos e] at h
      cases h
      omega
    · rw [if_neg e] at h
      exact o.big n j h
  · rw [len_new hn]
    by_cases e : n = n0
    · rw [if_pos e] at h
      cases h
      omega
    · rw [if_neg e] at h
      have := o.lt n j h
      omega
  · by_cases e : n = n0
    · rw [if_pos e] at h
      cases h
      by_cases e' : n' = n0
      · rw [e, e']
      · rw [if_neg e'] at h'
        have := o.lt _ _ h'
        omega
    · rw [if_neg e] at h
      by_cases e' : n' = n0
      · rw [if_pos e'] at h'
        cases h'
        have := o.lt _ _ h
        omega
      · rw [if_neg e'] at h'
        exact o.inj _ _ _ h h'
  · rw [if_neg (fun z : n = n0 => h1 (z ▸ hn'))]
    exact o.off n hn'
theorem Oth.old {B : Int} {ks : List (Key × V)} {g : Int → Option Int} {ns : List Int} (o : Oth B ks g ns) {n0 j0 : Int} (h0 : g n0 = some j0) : Oth B (putK ks (Sum.inl n0) (.int j0)) g ns := by
  have hn : valV ks (Sum.inl n0) = some (.int j0) := by rw [o.look, h0]; rfl
  refine ⟨fun n => ?_, o.big, fun n j h => ?_, o.inj, o.off⟩
  · rw [valV_put]
    by_cases e : n = n0
    · subst e
      rw [if_pos rfl, h0]
      rfl
    · rw [if_neg (fun z => e (Sum.inl.inj z)), o.look]
  · rw [length_old hn]
    exact o.lt n j h
theorem paired_of {α β : Type} {R : α → β → Prop} : ∀ {l : List α} {l' : List β}, l.length = l'.length → (∀ (i : Nat) a b, l[i]? = some a → l'[i]? = some b → R a b) → Paired R l l'
  | [], [], _, _ => .nil
  | a :: r, b :: r', h, p => .cons (p 0 a b rfl rfl) (paired_of (by simpa using h) fun i x y hx hy => p (i + 1) x y (by simpa using hx) (by simpa using hy))
  | [], _ :: _, h, _ => by simp at h
  | _ :: _, [], h, _ => by simp at h
theorem paired_at {α β : Type} {R : α → β → Prop} : ∀ {l : List α} {l' : List β}, Paired R l l' → l.length = l'.length ∧ ∀ (i : Nat) a b, l[i]? = some a → l'[i]? = some b → R a b
  | _, _, .nil => ⟨rfl, fun i a b h => by simp at h⟩
  | _, _, .cons x r => by
    obtain ⟨e, h⟩ := paired_at r
    refine ⟨by simp [e], fun i a b ha hb => ?_⟩
    cases i with
    | zero =>
      simp at ha hb
      subst ha hb
      exact x
    | succ i => exact h i a b (by simpa using ha) (by simpa using hb)
end TS
namespace TS
open PySem L2
/-! dicts as lists of pairs: no key twice, a copy of a dict is the dict -/
abbrev keysK (kvs : List (Key × V)) : List Key := kvs.map (fun q => q.1)
theorem val_pair {kvs : List (Key × V)} {k : Key} {v : V} (h : valV kvs k = some v) : (k, v) ∈ kvs := by
  unfold valV at h
  cases e : kvs.find? (fun kv => decide (kv.1 = k)) with
  | none =>
    rw [e] at h
    cases h
  | some q =>
    rw [e] at h
    cases h
    have h1 := List.find?_some e
    have h2 : q.1 = k := of_decide_eq_true h1
    have := List.mem_of_find?_eq_some e
    rw [← h2]
    exact this
theorem val_none {kvs : List (Key × V)} {k : Key} (h : valV kvs k = none) : k ∉ keysK kvs := by
  unfold valV at h
  simp only [Option.map_eq_none_iff, List.find?_eq_none] at h
  intro m
  obtain ⟨q, hq, e⟩ := List.mem_map.mp m
  exact absurd (decide_eq_true e) (h q hq)
theorem val_some {kvs : List (Key × V)} {k : Key} (h : k ∈ keysK kvs) : ∃ v, valV kvs k = some v := by
  cases e : valV kvs k with
  | none => exact absurd h (val_none e)
  | some v => exact ⟨v, rfl⟩
theorem keys_put (kvs : List (Key × V)) (k : Key) (v : V) : keysK (putK kvs k v) = keysK kvs ∨ (k ∉ keysK kvs ∧ keysK (putK kvs k v) = keysK kvs ++ [k]) := by
  cases e : valV kvs k with
  | none =>
    refine .inr ⟨val_none e, ?_⟩
    rw [putK_new v e]
    simp [keysK]
  | some u =>
    refine .inl ?_
    unfold putK
    rw [valV_any, e]
    simp only [Option.isSome_some, ↓reduceIte]
    unfold keysK
    rw [List.map_map]
    refine List.map_congr_left fun q _ => ?_
    simp only [Function.comp_apply]
    split <;> rfl
theorem nodup_put {kvs : List (Key × V)} (h : (keysK kvs).Nodup) (k : Key) (v : V) : (keysK (putK kvs k v)).Nodup := by
  rcases keys_put kvs k v with e | ⟨n, e⟩
  · rw [e]
    exact h
  · rw [e]
    refine List.nodup_append.mpr ⟨h, by simp, fun a ha b hb => ?_⟩
    simp at hb
    subst hb
    intro z
    subst z
    exact n ha
theorem merge_nodup : ∀ (more acc : List (Key × V)), (keysK acc).Nodup → (keysK (mergeK acc more)).Nodup
  | [], _, h => h
  | p :: r, acc, h => merge_nodup r _ (nodup_put h p.1 p.2)
theorem merge_self : ∀ (more acc : List (Key × V)), (keysK (acc ++ more)).Nodup → mergeK acc more = acc ++ more
  | [], acc, _ => by
    show acc = _
    rw [List.append_nil]
  | p :: r, acc, h => by
    show mergeK (putK acc p.1 p.2) r = _
    have n : p.1 ∉ keysK acc := by
      unfold keysK at h ⊢
      rw [List.map_append, List.map_cons] at h
      intro m
      exact (List.nodup_append.mp h).2.2 _ m _ (by simp) rfl
    have e : valV acc p.1 = none := by
      cases e : valV acc p.1 with
      | none => rfl
      | some v => exact absurd (List.mem_map.mpr ⟨_, val_pair e, rfl⟩) n
    rw [putK_new _ e, merge_self r _ (by rw [List.append_assoc]; exact h), List.append_assoc]
    rfl
theorem val_nodup : ∀ {kvs : List (Key × V)} {q : Key × V}, (keysK kvs).Nodup → q ∈ kvs → valV kvs q.1 = some q.2
  | p :: r, q, h, m => by
    unfold keysK at h
    rw [List.map_cons, List.nodup_cons] at h
    rcases List.mem_cons.mp m with rfl | m
    · exact valV_pos rfl
    · rw [valV_neg (fun e => h.1 (List.mem_map.mpr ⟨q, m, e.symm⟩))]
      exact val_nodup h.2 m
theorem keys_merge : ∀ (more acc : List (Key × V)) (k : Key), k ∈ keysK acc ∨ k ∈ keysK more → k ∈ keysK (mergeK acc more)
  | [], acc, k, h => h.resolve_right (by simp)
  | p :: r, acc, k, h => by
    refine keys_merge r (putK acc p.1 p.2) k ?_
    have up : ∀ k', k' ∈ keysK acc ∨ k' = p.1 → k' ∈ keysK (putK acc p.1 p.2) := fun k' h' => by
      rcases keys_put acc p.1 p.2 with e | ⟨n, e⟩
      · rw [e]
        rcases h' with h' | h'
        · exact h'
        · subst h'
          have : (valV (putK acc p.1 p.2) p.1) = some p.2 := by rw [valV_put, if_pos rfl]
          rw [← e]
          exact List.mem_map.mpr ⟨_, val_pair this, rfl⟩
      · rw [e]
        rcases h' with h' | h'
        · exact List.mem_append_left _ h'
        · subst h'
          simp
    rcases h with h | h
    · exact .inl (up k (.inl h))
    · unfold keysK at h
      rw [List.map_cons] at h
      rcases List.mem_cons.mp h with h | h
      · exact .inl (up k (.inr h))
      · exact .inr h
/-- a dict from texts to numbers -/
def StrInts (kvs : List (Key × V)) : Prop := ∀ q ∈ kvs, ∃ (x : Str) (n : Int), q = (Sum.inr x, V.int n)
theorem put_si {kvs : List (Key × V)} (h : StrInts kvs) (x : Str) (n : Int) : StrInts (putK kvs (Sum.inr x) (.int n)) := by
  unfold putK
  intro q hq
  split at hq
  · obtain ⟨p, hp, rfl⟩ := List.mem_map.mp hq
    obtain ⟨y, m, rfl⟩ := h p hp
    split
    · exact ⟨y, n, rfl⟩
    · exact ⟨y, m, rfl⟩
  · rcases List.mem_append.mp hq with hq | hq
    · exact h q hq
    · simp at hq
      subst hq
      exact ⟨x, n, rfl⟩
theorem merge_si : ∀ (more acc : List (Key × V)), StrInts acc → StrInts more → StrInts (mergeK acc more)
  | [], _, h, _ => h
  | p :: r, acc, h, hm => by
    obtain ⟨x, n, rfl⟩ := hm p (by simp)
    exact merge_si r _ (put_si h x n) fun q hq => hm q (by simp [hq])
end TS
namespace TS
open PySem L2
section
variable {P : Program} {w : World} {K : PySem.W.Frag} {mg : Str → Option Value} {base : Heap}
theorem text_iff {t u : Tr} (hf : t.fine) (hd : t.deep ≤ 3) (gf : u.fine) (gd : u.deep ≤ 3) : decide (V.str t.text = V.str u.text) = PyData.eqv t.data u.data := by
  rw [Bool.eq_iff_iff, decide_eq_true_iff, Tr.eqv_iff]
  constructor
  · intro h
    injection h with h
    exact text_inj hf hd gf gd h
  · intro h
    rw [h]
theorem no_first {C : Addr} {t : Value} (h : PySem.W.kitOne K t (.ref C) = some false) : PySem.W.notFirst K C t = true := by
  unfold PySem.W.kitOne at h
  split at h
  · cases h
  · unfold PySem.W.kitCls at h
    simp only at h
    split at h
    · unfold PySem.W.notFirst
      rw [h]
      simp
    · cases h
theorem self_first {C : Addr} : PySem.W.notFirst K C (.ref C) = true := by
  unfold PySem.W.notFirst
  simp
/-- a Term beside a Term -/
theorem eq_term {C a b : Addr} {t u : Tr} {H : Hp} {Q : VK} {E : XK} {g : Bool → Bool} (TK : TermK K mg C) (ht : TermAt C H a t) (hu : TermAt C H b u) (q : Q (.bl (g (PyData.eqv t.data u.data))) H) : rOwn2 K C (spTEq K C) E g (.ref a) (.ref b) H Q := by
  obtain ⟨_, _, dx, v, l, qq, r, ws, ns, e, _⟩ := id ht
  obtain ⟨_, _, dx', v', l', qq', r', ws', ns', e', _⟩ := id hu
  refine ⟨a, dx, _, _, rfl, e, TK.ty e', self_first, a, t, .ref b, rfl, ht, .inl ⟨b, u, rfl, hu, _, rfl, ?_⟩⟩
  rw [text_iff ht.fine ht.deep hu.fine hu.deep]
  exact q
/-- a Term beside what is none -/
theorem eq_other {C a : Addr} {t : Tr} {y : V} {ty : Value} {H : Hp} {Q : VK} {E : XK} {g : Bool → Bool} (ht : TermAt C H a t) (hy : TyX K H y ty) (k : PySem.W.kitOne K ty (.ref C) = some false) (q : Q (.bl (g false)) H) : rOwn2 K C (spTEq K C) E g (.ref a) y H Q := by
  obtain ⟨_, _, dx, v, l, qq, r, ws, ns, e, _⟩ := id ht
  exact ⟨a, dx, _, _, rfl, e, hy, no_first k, a, t, y, rfl, ht, .inr ⟨ty, hy, k, _, rfl, q⟩⟩
theorem tree_ty {C : Addr} {H : Hp} {v : V} {t : Tr} (TK : TermK K mg C) (h : TrAt H v t) : ∃ ty, TyX K H v ty ∧ PySem.W.kitOne K ty (.ref C) = some false := by
  cases h with
  | num n => exact ⟨_, .base (.int n), TK.kInt⟩
  | wd x => exact ⟨_, .base (.str x), TK.kStr⟩
  | ch h _ _ _ _ => exact ⟨_, .base (.tup h), TK.kTup⟩
theorem eqv_self {t : Tr} (h : t.fine) : PyData.eqv t.data t.data = true := (Tr.eqv_iff t t).mpr rfl
theorem tr_num {H : Hp} {v : V} {n : Int} (h : TrAt H v (.num n)) : v = .int n := by
  cases h
  rfl
theorem tr_wd {H : Hp} {v : V} {x : Str} (h : TrAt H v (.wd x)) : v = .str x := by
  cases h
  rfl
/-- a Term made, once its places are known -/
theorem make_at {C : Addr} {H : Hp} {x : V} {t : Tr} {Z : VK} {E : XK} (hm : Makes C H x t) (hf : t.fine) (hd : t.deep ≤ 3) {a dx : Addr} (na : H a = none) (nd : H dx = none) (ne : dx ≠ a)
    (q : ∀ H', Same H H' → (∀ Ds, Lists Ds H → ∀ G, SameOff Ds H' G → TermAt C G a t) → Z .non H') : spTInit C (.ref a :: ([x] ++ [])) (upd (upd H dx (.own a)) a (.ins C dx [])) Z E := by
  have s0 : Same H (upd (upd H dx (.own a)) a (.ins C dx [])) := fun b o e => by
    rw [upd_ne (ne_of_none e na), upd_ne (ne_of_none e nd)]
    exact e
  exact ⟨a, dx, x, t, rfl, upd_same, hm.same s0, hf, hd, fun H' sx ht => q H' (fun b o e => sx b o (s0 b o e) (ne_of_none e na)) fun Ds hDs => ht Ds fun D m => let ⟨xs, e⟩ := hDs D m; ⟨xs, s0 _ _ e⟩⟩
end
end TS
namespace TS
open PySem L2
abbrev sMoved : Stmt := top 41
theorem worth_ren {σ : Int → Int} {S : Int → Prop} {ρ : Str → Int} (inj : ∀ a b, S a → S b → σ a = σ b → a = b) : ∀ t : Tr, (∀ x ∈ t.words, S (ρ x)) → (∀ n ∈ t.nums, S n ∧ σ n = n) → t.worth (fun x => σ (ρ x)) = σ (t.worth ρ) ∧ S (t.worth ρ)
  | .num n, _, hn => ⟨((hn n (by simp [Tr.nums])).2).symm, (hn n (by simp [Tr.nums])).1⟩
  | .wd x, hw, _ => ⟨rfl, hw x (by simp [Tr.words])⟩
  | .ch a b c d, hw, hn => by
    obtain ⟨w1, w2, w3, w4⟩ := words_ch hw
    simp only [Tr.nums, List.mem_append, List.not_mem_nil, or_false] at hn
    obtain ⟨e1, s1⟩ := worth_ren inj a w1 fun n h => hn n (.inl h)
    obtain ⟨e2, s2⟩ := worth_ren inj b w2 fun n h => hn n (.inr (.inl h))
    obtain ⟨e3, s3⟩ := worth_ren inj c w3 fun n h => hn n (.inr (.inr (.inl h)))
    obtain ⟨e4, s4⟩ := worth_ren inj d w4 fun n h => hn n (.inr (.inr (.inr h)))
    simp only [Tr.worth, e1, e2, e3, e4]
    by_cases e : a.worth ρ = b.worth ρ
    · rw [if_pos e, if_pos (congrArg σ e)]
      exact ⟨rfl, s3⟩
    · rw [if_neg e, if_neg (fun z => e (inj _ _ s1 s2 z))]
      exact ⟨rfl, s4⟩
theorem worth_congr {ρ ρ' : Str → Int} : ∀ t : Tr, (∀ x ∈ t.words, ρ x = ρ' x) → t.worth ρ = t.worth ρ'
  | .num _, _ => rfl
  | .wd x, h => h x (by simp [Tr.words])
  | .ch a b c d, h => by
    obtain ⟨w1, w2, w3, w4⟩ := words_ch h
    simp only [Tr.worth, worth_congr a w1, worth_congr b w2, worth_congr c w3, worth_congr d w4]
theorem fine_nums : ∀ {t : Tr}, t.fine → ∀ n ∈ t.nums, 0 ≤ n ∧ n ≤ 9
  | .num m, hf, n, h => by
    simp [Tr.nums] at h
    subst h
    exact hf
  | .wd y, _, n, h => by simp [Tr.nums] at h
  | .ch a b c d, hf, n, h => by
    simp only [Tr.nums, List.mem_append, List.not_mem_nil, or_false] at h
    rcases h with h | h | h | h
    · exact fine_nums hf.1 n h
    · exact fine_nums hf.2.1 n h
    · exact fine_nums hf.2.2.1 n h
    · exact fine_nums hf.2.2.2 n h
theorem StrInts.at {kvs : List (Key × V)} (h : StrInts kvs) {x : Str} {u : V} (m : (Sum.inr x, u) ∈ kvs) : atS kvs x = some (.int (rhoOf kvs x)) := by
  cases e : atS kvs x with
  | none =>
    unfold atS valV at e
    simp only [Option.map_eq_none_iff, List.find?_eq_none] at e
    exact absurd (decide_eq_true rfl) (e _ m)
  | some v =>
    obtain ⟨q, hq, rfl⟩ := val_mem e
    obtain ⟨y, n, rfl⟩ := h q hq
    unfold rhoOf
    rw [e]
/-- the value of a moved pair -/
def mvF (g : Int → Option Int) (kvs : List (Key × V)) : Key → V
  | .inr x => .int ((g (rhoOf kvs x)).getD (rhoOf kvs x))
  | .inl _ => .non
/-- another number where the dict has one -/
def renI (g : Int → Option Int) (n : Int) : Int := (g n).getD n
theorem renI_get (g : Int → Option Int) (n : Int) : ((g n).map V.int).getD (.int n) = .int (renI g n) := by
  unfold renI
  cases g n <;> rfl
theorem SameX.un {d : Addr} {H H' : Hp} {o : HO} (s : SameX d H H') (e : H d = some o) : Same H (upd H' d o) := fun b u h => by
  by_cases hb : b = d
  · subst hb
    rw [upd_same, ← e]
    exact h
  · rw [upd_ne hb]
    exact s b u h hb
section
variable {P : Program} {w : World} {K : PySem.W.Frag} {mg : Str → Option Value} {base : Heap}
def spMoved : Sp := fun vs H Q _ => ∃ (v : V) (t : Tr) (d lg : Addr) (kvs : List (Key × V)) (ns : List Int), vs = [v, .ref d, .ref lg] ∧ TrAt H v t ∧ t.fine ∧ t.deep ≤ 3 ∧ H d = some (.dK kvs) ∧ kvs.length ≤ 1000 ∧ StrInts kvs ∧
  (∀ x ∈ t.words, ∃ u, (Sum.inr x, u) ∈ kvs) ∧ H lg = some (.lst (ns.map V.int)) ∧ ns.Perm (once t.nums) ∧ ∀ H', Same H H' → Q (.bl true) H'
abbrev nmMoved : List Str := ["tree", "held", "digits", "others", "word", "moved", "worth"]
theorem scMoved : FnScope nmMoved ["tree", "held", "digits"] (defScope sMoved) := ⟨rfl, rfl, rfl, by decide +kernel, rfl, by decide +kernel, by decide +kernel⟩
abbrev big20 : Int := (10 : Int) ^ Int.toNat 20
theorem big20_pos : (9 : Int) < big20 := by decide +kernel
theorem ok_moved {C N NN fc f : Addr} {fdc fd2 fd : FuncData} {og : Obj} (F : Fun K "_law_moved_right" "_law_moved_right" sMoved f fd) (T : BltT mg) (md : mg "dict" = none) (TK : TermK K mg C)
    (cs : PySem.W.findIn K (.ref C) "__call__" = some (some (.ref fc))) (cf : PySem.W.isFn K (.ref fc) = true) (cg : K.lookup fc = some og) (cd : og.data = .func fd2) (bc : Binds K fdc ["self", "values"] []) (GC : FnOk P w K mg base (L2.CX P w) 5 fc fdc ["self", "values"] (spTCall K C N NN))
    (D1 : Has P w K mg base "_law_tree_worth" 3 ["tree", "held"] (spVal 3)) (D2 : Has P w K mg base "_law_tree_text" 3 ["tree"] (spText 3)) (DT : HasTerm P w K mg base C) : FnOk P w K mg base CX0 14 f fd ["tree", "held", "digits"] spMoved := by
  obtain ⟨f1, fd1, m1, k1, b1, G1⟩ := D1
  obtain ⟨f2, fd2', m2, k2, b2, G2⟩ := D2
  obtain ⟨f3, fd3, M3, b3, G3⟩ := DT
  refine F.ok scMoved (fun vs H Q E h => ?_) (fun cdv A outer s H vs Q E hr h => ?_)
  · obtain ⟨v, t, d, lg, kvs, ns, rfl, _⟩ := h
    rfl
  obtain ⟨v, t, d, lg, kvs, ns, rfl, ht, hf, hd, hD, hk1, hSI, hwk, hg, pn, q⟩ := h
  have hu := hu_of hr
  have r3 : Room 3 _ := hr.mono (by decide)
  have r4 : Room 5 _ := hr.mono (by decide)
  refine ⟨_, pss_cons (ps_set (i := 3) scMoved.nd rfl (.inr rfl) pe_dnewK)
    (pss_cons (ps_lock (ps_for PassesOwn.never rfl (pi_keys (pv 1)) (pg_name (i := 4) scMoved.nd rfl (.inl rfl))
      (pss_one (ps_if (pt_cmpR op_notIn_seq (pe_dget hu (pv 1) (pv 4) (fun _ _ => rfl)) (pv 2) (by rfl))
        (pss_one (ps_dput hu (pv 3) (pe_dget hu (pv 1) (pv 4) (fun _ _ => rfl))
          (pe_ifExp (pt_cmp (pc_dnotin hu (pe_dget hu (pv 1) (pv 4) (fun _ _ => rfl)) (pv 3))) (pe_op op_add (pe_op op_pow pe_int pe_int) (pe_callB call_lenD (by rfl) T.len PySem.boot_len (pa_cons (pv 3) pa_nil)))
            (pe_dget hu (pv 3) (pe_dget hu (pv 1) (pv 4) (fun _ _ => rfl)) (fun _ _ => rfl))) rfl)) pss_nil))))
    (pss_cons (ps_set (i := 5) scMoved.nd rfl (.inl rfl) (pe_callTy (call_dictP rfl) (by rfl) md (by decide +kernel) (pa_cons
      (pe_lock (pe_lc (own := [("word", 4)]) (g := gName 4) (tt := tYes) (by rfl) scMoved.nd (pi_keys (pv 1)) (blkOk_by (own := [("word", 4)]) (N := nmMoved) (sc := defScope sMoved) (by decide +kernel)) (fun _ _ _ _ _ => pg_name (i := 4) scMoved.nd rfl (Or.inl rfl)) (fun _ _ _ _ _ => pts_nil)
        (fun _ _ _ _ _ => pe_tup (pa_cons (pv 4) (pa_cons (pe_dget2 hu (pv 3) (pe_dget hu (pv 1) (pv 4) (fun _ _ => rfl)) (pe_dget hu (pv 1) (pv 4) (fun _ _ => rfl)) ⟨by rfl, by rfl, rfl, by rfl⟩) pa_nil))))) pa_nil)))
    (pss_cons (ps_set (i := 6) scMoved.nd rfl (.inl rfl) (pe_call G1 r3 rfl m1 k1 b1 .nil pass0 (pa_cons (pv 0) (pa_cons (pv 1) pa_nil))))
    (pss_one (ps_ret (pe_cmpR op_eq (pe_callObj (E := WE (fun _ _ _ _ => False)) (pe_make M3 G3 hr rfl TK.mgC b3 .nil pass0 (pa_cons (pe_call G2 r3 rfl m2 k2 b2 .nil pass0 (pa_cons (pv 0) pa_nil)) pa_nil)) cs cf cg cd GC r4 bc (fun σ => passAt takes0 σ) (pa_cons (pv 5) pa_nil))
      (pe_dget2 hu (pv 3) (pv 6) (pv 6) ⟨by rfl, by rfl, rfl, by rfl⟩) (nomark _))))))), ?_⟩
  intro o1 ho1
  have s0 : Same H (upd H o1 (.dK [])) := same_upd ho1 _
  have e0 : (upd H o1 (.dK [])) o1 = some (.dK []) := upd_same
  generalize upd H o1 (.dK []) = H1 at s0 e0
  have n1d : o1 ≠ d := (ne_of_none hD ho1).symm
  have ngd : lg ≠ d := ne_of hg hD (by intro z; cases z)
  have no1 : ∀ {b o}, H b = some o → b ≠ o1 := fun h => ne_of_none h ho1
  refine ⟨d, _, s0 _ _ hD, trivial, fun od => ?_⟩
  have x2 : SameX d H (upd H1 d (.frz od (.dK kvs))) := sx_upd (Same.x s0)
  have z2 : (upd H1 d (.frz od (.dK kvs))) d = some (.frz od (.dK kvs)) := upd_same
  have k2' : (upd H1 d (.frz od (.dK kvs))) o1 = some (.dK []) := by
    rw [upd_ne n1d]
    exact e0
  generalize upd H1 d (.frz od (.dK kvs)) = H2 at x2 z2 k2'
  refine ⟨_, rfl, d, od, rfl, .inl ⟨kvs, z2, for_it walk_keys (fun i σ' H' => (∃ j4 : Option V, σ' = [some v, some (.ref d), some (.ref lg), some (.ref o1), j4, none, none]) ∧ SameX d H H' ∧ H' d = some (.frz od (.dK kvs)) ∧ ∃ (ks : List (Key × V)) (g : Int → Option Int), H' o1 = some (.dK ks) ∧ Oth big20 ks g ns ∧ ks.length ≤ i ∧
      ∀ (j : Nat) (x : Str) (u : V), j < i → kvs[j]? = some (Sum.inr x, u) → rhoOf kvs x ∉ ns → (g (rhoOf kvs x)).isSome = true) ⟨⟨_, rfl⟩, x2, z2, [], _, k2', Oth.nil, Nat.le_refl _, fun j x u hj => by omega⟩ (fun i σ' H' _ z => z.2.2.1) ?turn ?done⟩⟩
  case turn =>
    rintro i y σ' H' H'' hi ⟨⟨j4, rfl⟩, x3, z3, ks, g, k3, oth, kl, all⟩ ⟨rfl, k, u, ek, rfl⟩
    obtain ⟨x, n, e⟩ := hSI _ (List.mem_of_getElem? ek)
    cases e
    have ax : atS kvs x = some (.int (rhoOf kvs x)) := hSI.at (List.mem_of_getElem? ek)
    have dx : DGet H'' d (.str x) (some (.int (rhoOf kvs x))) := dget_s (.inr ⟨od, z3⟩) ax
    have d1 : DGet H'' o1 (.int (rhoOf kvs x)) (valV ks (Sum.inl (rhoOf kvs x))) := DGet.k (k := Sum.inl (rhoOf kvs x)) k3
    refine ⟨_, rfl, _, rfl, d, _, rfl, dx, _, rfl, lg, _, rfl, .inl (SqL.of (x3 _ _ hg ngd)), rfl, flat_int ns, _, rfl, ?_⟩
    simp only [↓reduceIte, inV_int]
    have next : ∀ ks' g', Oth big20 ks' g' ns → ks'.length ≤ i + 1 → (∀ n, (g n).isSome = true → (g' n).isSome = true) → (rhoOf kvs x ∉ ns → (g' (rhoOf kvs x)).isSome = true) → ∃ (ks2 : List (Key × V)) (g2 : Int → Option Int), some (HO.dK ks') = some (.dK ks2) ∧ Oth big20 ks2 g2 ns ∧ ks2.length ≤ i + 1 ∧
        ∀ (j : Nat) (x' : Str) (u : V), j < i + 1 → kvs[j]? = some (Sum.inr x', u) → rhoOf kvs x' ∉ ns → (g2 (rhoOf kvs x')).isSome = true := fun ks' g' o' l' m' me => by
      refine ⟨ks', g', rfl, o', l', fun j x' u hj ej hn => ?_⟩
      by_cases c : j < i
      · exact m' _ (all j x' u c ej hn)
      · have e : j = i := by omega
        subst e
        rw [ek] at ej
        cases ej
        exact me hn
    have stored : ∀ w', SameX d H (upd H'' o1 w') := fun w' b o h nb => by
      rw [upd_ne (no1 h)]
      exact x3 b o h nb
    have stay : ∀ w', (upd H'' o1 w') d = some (.frz od (.dK kvs)) := fun w' => by
      rw [upd_ne n1d.symm]
      exact z3
    by_cases hin : rhoOf kvs x ∈ ns
    · rw [decide_eq_true hin]
      refine iteF ⟨⟨_, rfl⟩, x3, z3, ?_⟩
      obtain ⟨a1, a2, a3, a4⟩ := next ks g oth (by omega) (fun _ h => h) (fun h => absurd hin h)
      cases a3
      exact ⟨_, a2, k3, a4⟩
    · rw [decide_eq_false hin]
      refine iteT ?_
      refine ⟨_, rfl, _, rfl, d, _, rfl, dx, _, rfl, o1, _, rfl, d1, _, rfl, ?_⟩
      rw [oth.look]
      cases eg : g (rhoOf kvs x) with
      | none =>
        refine iteT ⟨_, _, rfl, rfl, ⟨by decide, by decide, by decide⟩, _, rfl, o1, ks, rfl, k3, _, _, rfl, rfl, _, rfl, _, rfl, _, rfl, d, _, rfl, dx, o1, _, rfl, DPut.k (k := Sum.inl (rhoOf kvs x)) k3 ?_, ?_⟩
        · exact Nat.lt_of_le_of_lt (m := 1000) (by omega) (by decide)
        refine ⟨⟨_, rfl⟩, stored _, stay _, ?_⟩
        rw [upd_same]
        have hn : valV ks (Sum.inl (rhoOf kvs x)) = none := by rw [oth.look, eg]; rfl
        refine next _ _ (oth.new eg hin) (by rw [len_new hn]; omega) (fun n h => ?_) (fun _ => by simp)
        by_cases c : n = rhoOf kvs x
        · simp [c]
        · simp [c, h]
      | some j0 =>
        have d2 : DGet H'' o1 (.int (rhoOf kvs x)) (some (.int j0)) := by
          have := d1
          rw [oth.look, eg] at this
          exact this
        refine iteF ⟨_, rfl, _, rfl, _, rfl, d, _, rfl, dx, o1, _, rfl, d2, _, rfl, _, rfl, _, rfl, d, _, rfl, dx, o1, _, rfl, DPut.k (k := Sum.inl (rhoOf kvs x)) k3 ?_, ?_⟩
        · exact Nat.lt_of_le_of_lt (m := 1000) (by omega) (by decide)
        refine ⟨⟨_, rfl⟩, stored _, stay _, ?_⟩
        rw [upd_same]
        have hn : valV ks (Sum.inl (rhoOf kvs x)) = some (.int j0) := by rw [oth.look, eg]; rfl
        exact next _ _ (oth.old eg) (by rw [length_old hn]; omega) (fun n h => h) (fun _ => by rw [eg]; rfl)
  case done =>
    rintro σ3 H3 ⟨⟨j4, rfl⟩, x3, z3, ks, g, k3, oth, kl, all⟩
    refine ⟨z3, ?_⟩
    have s4 : Same H (upd H3 d (.dK kvs)) := x3.un hD
    have k4 : (upd H3 d (.dK kvs)) o1 = some (.dK ks) := by
      rw [upd_ne n1d]
      exact k3
    generalize upd H3 d (.dK kvs) = H4 at s4 k4
    have all' : ∀ (x : Str) (u : V), (Sum.inr x, u) ∈ kvs → rhoOf kvs x ∉ ns → (g (rhoOf kvs x)).isSome = true := fun x u m hn => by
      obtain ⟨j, hj, e⟩ := List.getElem_of_mem m
      exact all j x u hj (by rw [← e]; exact List.getElem?_eq_getElem hj) hn
    refine ⟨d, _, s4 _ _ hD, trivial, fun od2 => ?_⟩
    have x5 : SameX d H (upd H4 d (.frz od2 (.dK kvs))) := sx_upd (Same.x s4)
    have z5 : (upd H4 d (.frz od2 (.dK kvs))) d = some (.frz od2 (.dK kvs)) := upd_same
    have k5 : (upd H4 d (.frz od2 (.dK kvs))) o1 = some (.dK ks) := by
      rw [upd_ne n1d]
      exact k4
    generalize upd H4 d (.frz od2 (.dK kvs)) = H5 at x5 z5 k5
    refine ⟨_, rfl, d, od2, rfl, .inl ⟨kvs, z5, fun D hDn => lc_it walk_keys (fun i H' => SameX d H H' ∧ H' d = some (.frz od2 (.dK kvs)) ∧ H' o1 = some (.dK ks) ∧ ∃ ps : List Addr, H' D = some (.lst (ps.map V.ref)) ∧ ps.length = i ∧
      ∀ (j : Nat) (p : Addr) (x : Str) (u : V), ps[j]? = some p → kvs[j]? = some (Sum.inr x, u) → H' p = some (.tup [.str x, .int (renI g (rhoOf kvs x))])) ?start (fun i H' _ z => z.2.1) ?item ?made⟩⟩
    case start =>
      refine ⟨fun b o h nb => ?_, ?_, ?_, [], upd_same, rfl, fun j p x u h => by simp at h⟩
      · rw [upd_ne (ne_of_none (x5 b o h nb) hDn)]
        exact x5 b o h nb
      · rw [upd_ne (ne_of_none z5 hDn)]
        exact z5
      · rw [upd_ne (ne_of_none k5 hDn)]
        exact k5
    case item =>
      rintro i y H' H'' hi ⟨x6, z6, k6, ps, hps, hl, hp⟩ ⟨rfl, k, u, ek, rfl⟩
      obtain ⟨x, n, e⟩ := hSI _ (List.mem_of_getElem? ek)
      cases e
      have ax : atS kvs x = some (.int (rhoOf kvs x)) := hSI.at (List.mem_of_getElem? ek)
      have dx : DGet H'' d (.str x) (some (.int (rhoOf kvs x))) := dget_s (.inr ⟨od2, z6⟩) ax
      have d1 : DGet H'' o1 (.int (rhoOf kvs x)) (valV ks (Sum.inl (rhoOf kvs x))) := DGet.k (k := Sum.inl (rhoOf kvs x)) k6
      refine ⟨rfl, ?_⟩
      unfold tYes
      dsimp only
      rw [if_pos rfl]
      refine ⟨_, rfl, _, rfl, o1, rfl, .inl ⟨_, .inl k6⟩, _, rfl, _, rfl, d, _, rfl, dx, _, rfl, _, rfl, d, _, rfl, dx, _, d1, by show 2 ≤ sizeLine; decide, fun tp htp => ?_⟩
      rw [oth.look, renI_get]
      have nD : D ≠ tp := ne_of_none hps htp
      have low : ∀ {b o}, H'' b = some o → b ≠ D → (upd (upd H'' tp (.tup [.str x, .int (renI g (rhoOf kvs x))])) D (.lst (ps.map V.ref ++ [.ref tp]))) b = some o := fun {b o} h nb => by
        rw [upd_ne nb, upd_ne (ne_of_none h htp)]
        exact h
      have dD : d ≠ D := ne_of z6 hps (by intro z; cases z)
      have oD : o1 ≠ D := ne_of k6 hps (by intro z; cases z)
      refine ⟨_, (by rw [upd_ne nD]; exact hps), ?_, fun b o h nb => ?_, low z6 dD, low k6 oD, ps ++ [tp], ?_, by simp [hl], fun j p x' u' hj ej => ?_⟩
      · rw [List.length_map]
        exact Nat.lt_of_le_of_lt (m := 1000) (by omega) (by decide)
      · refine low (x6 b o h nb) fun e => ?_
        have e2 := x5 b o h nb
        rw [e, hDn] at e2
        cases e2
      · rw [upd_same, List.map_append]
        rfl
      · by_cases c : j < ps.length
        · rw [List.getElem?_append_left c] at hj
          have h6 := hp j p x' u' hj ej
          exact low h6 (ne_of h6 hps (by intro z; cases z))
        · rw [List.getElem?_append_right (by omega)] at hj
          have e0 : j = i := by
            have := (List.getElem?_eq_some_iff.mp ej).1
            cases hz : j - ps.length with
            | zero => omega
            | succ k =>
              rw [hz] at hj
              simp at hj
          subst e0
          rw [hl, Nat.sub_self] at hj
          simp at hj
          subst hj
          rw [ek] at ej
          cases ej
          rw [upd_ne nD.symm, upd_same]
          rfl
    case made =>
      rintro H6 ⟨x6, z6, k6, ps, hps, hl, hp⟩
      refine ⟨z6, ?_⟩
      have s7 : Same H (upd H6 d (.dK kvs)) := x6.un hD
      have k7 : (upd H6 d (.dK kvs)) o1 = some (.dK ks) := by
        rw [upd_ne n1d]
        exact k6
      have hps7 : (upd H6 d (.dK kvs)) D = some (.lst (ps.map V.ref)) := by
        rw [upd_ne (ne_of hps z6 (by intro z; cases z))]
        exact hps
      have hp7 : ∀ (j : Nat) (p : Addr) (x : Str) (u : V), ps[j]? = some p → kvs[j]? = some (Sum.inr x, u) → (upd H6 d (.dK kvs)) p = some (.tup [.str x, .int (renI g (rhoOf kvs x))]) := fun j p x u h1 h2 => by
        rw [upd_ne (ne_of (hp j p x u h1 h2) z6 (by intro z; cases z))]
        exact hp j p x u h1 h2
      generalize upd H6 d (.dK kvs) = H7 at s7 k7 hps7 hp7
      refine ⟨D, ps, kvs.map (fun q => (q.1, mvF g kvs q.1)), rfl, SqL.of hps7, paired_of (by simp [hl]) (fun i p q hp' hq => ?_), fun p0 hp0 => ?_⟩
      · rw [List.getElem?_map] at hq
        cases ek : kvs[i]? with
        | none =>
          rw [ek] at hq
          cases hq
        | some q0 =>
          rw [ek] at hq
          obtain ⟨x, n, e⟩ := hSI _ (List.mem_of_getElem? ek)
          subst e
          cases hq
          exact SqT.of (hp7 i p x _ hp' ek)
      have s8 : Same H7 (upd H7 p0 (.dK (mergeK [] (kvs.map (fun q => (q.1, mvF g kvs q.1)))))) := same_upd hp0 _
      have k8 : (upd H7 p0 (.dK (mergeK [] (kvs.map (fun q => (q.1, mvF g kvs q.1)))))) p0 = some (.dK (mergeK [] (kvs.map (fun q => (q.1, mvF g kvs q.1))))) := upd_same
      have atM : ∀ x ∈ t.words, atS (mergeK [] (kvs.map (fun q => (q.1, mvF g kvs q.1)))) x = some (.int (renI g (rhoOf kvs x))) := fun x hx => by
        obtain ⟨u, hu'⟩ := hwk x hx
        refine merge_fun (mvF g kvs) (Sum.inr x) _ [] (fun q hq => ?_) (.inl ?_)
        · obtain ⟨q0, _, rfl⟩ := List.mem_map.mp hq
          rfl
        · rw [List.map_map]
          exact List.mem_map.mpr ⟨_, hu', rfl⟩
      have cellM : ∀ (G : Hp), ∀ q ∈ mergeK [] (kvs.map (fun q => (q.1, mvF g kvs q.1))), CellV G q.2 := fun G => by
        refine merge_all _ [] (by simp) fun q hq => ?_
        obtain ⟨q0, hq0, rfl⟩ := List.mem_map.mp hq
        obtain ⟨x, n, e⟩ := hSI _ hq0
        subst e
        exact .int _
      generalize mergeK [] (kvs.map (fun q => (q.1, mvF g kvs q.1))) = kvM at s8 k8 atM cellM
      generalize upd H7 p0 (.dK kvM) = H8 at s8 k8
      have s08 := s7.trans s8
      have wsall : ∀ x ∈ t.words, atS kvs x = some (.int (rhoOf kvs x)) := fun x hx => let ⟨u, hu'⟩ := hwk x hx; hSI.at hu'
      have small : ∀ n ∈ ns, n ≤ 9 := fun n hn => (fine_nums hf n ((once_mem _ _).mp (pn.mem_iff.mp hn))).2
      have key : t.worth (rhoOf kvM) = renI g (t.worth (rhoOf kvs)) := by
        rw [worth_congr (ρ' := fun x => renI g (rhoOf kvs x)) t (fun x hx => by unfold rhoOf; rw [atM x hx]; rfl)]
        refine (worth_ren (σ := renI g) (S := fun n => n ∈ ns ∨ (g n).isSome = true) (fun a b sa sb e => ?_) t (fun x hx => ?_) (fun n hn => ?_)).1
        · unfold renI at e
          cases ga : g a with
          | none =>
            have ma : a ∈ ns := sa.resolve_right (by rw [ga]; intro z; cases z)
            cases gb : g b with
            | none =>
              rw [ga, gb] at e
              exact e
            | some j =>
              rw [ga, gb] at e
              have h1 := small a ma
              have h2 := oth.big b j gb
              have h3 := big20_pos
              have e' : a = j := e
              omega
          | some i' =>
            cases gb : g b with
            | none =>
              have mb : b ∈ ns := sb.resolve_right (by rw [gb]; intro z; cases z)
              rw [ga, gb] at e
              have h1 := small b mb
              have h2 := oth.big a i' ga
              have h3 := big20_pos
              have e' : i' = b := e
              omega
            | some j =>
              rw [ga, gb] at e
              have e' : i' = j := e
              subst e'
              exact oth.inj a b i' ga gb
        · by_cases c : rhoOf kvs x ∈ ns
          · exact .inl c
          · obtain ⟨u, hu'⟩ := hwk x hx
            exact .inr (all' x u hu' c)
        · have mn : n ∈ ns := pn.mem_iff.mpr ((once_mem _ _).mpr hn)
          refine ⟨.inl mn, ?_⟩
          unfold renI
          rw [oth.off n mn]
          rfl
      refine ⟨_, rfl, _, rfl, v, t, d, kvs, rhoOf kvs, rfl, ht.same s08, hd, s08 _ _ hD, wsall, ?_⟩
      refine ⟨_, rfl, v, t, rfl, ht.same s08, hf.small, hd, Nat.le_trans (text315 hf hd) (by decide), fun H9 s9 => ?_⟩
      intro a dx na nd ne
      refine make_at (.inl rfl) hf hd na nd ne fun H10 s10 hT => ⟨rfl, ?_⟩
      have tm := hT [] (fun D m => by cases m) H10 (SameOff.refl _ _)
      obtain ⟨_, _, dx', v', l', qv', rv', ws', ns', hins, _⟩ := id tm
      have s8' := s9.trans s10
      refine ⟨a, rfl, _, rfl, ⟨dx', _, hins⟩, a, t, .ref p0, rfl, tm, .inl ⟨p0, kvM, rfl, s8' _ _ k8, cellM _, fun ws pw sw => ?_⟩⟩
      have fb : firstBad kvM ws = none := firstBad_none fun y hy => by
        rw [atM y ((Ord.mem ⟨pw, sw⟩).mp hy)]
        rfl
      refine ⟨fun x ex => (by rw [fb] at ex; cases ex), fun _ => ?_⟩
      have kE := s8' _ _ (s8 _ _ k7)
      refine ⟨_, rfl, o1, rfl, .inl ⟨_, .inl kE⟩, _, rfl, _, rfl, _, DGet.k (k := Sum.inl (t.worth (rhoOf kvs))) kE, ?_⟩
      rw [oth.look, renI_get, key]
      refine ⟨rfl, ?_⟩
      rw [decide_eq_true rfl]
      exact q H10 (s08.trans s8')
end
end TS
namespace TS
open PySem L2
section
variable {P : Program} {w : World} {K : PySem.W.Frag} {mg : Str → Option Value} {base : Heap}
/-! _law_tree, whose words are of those given -/
def spLTreeW (d : Nat) : Sp := fun vs H Q _ => ∃ (p lw lg : Addr) (ws : List Str) (ns : List Int) (deep : Nat), vs = [.ref p, .ref lw, .ref lg, .int deep] ∧ PoolAt H p ∧ Stock H p lw lg ws ns ∧ 1 ≤ deep ∧ deep ≤ d ∧
  ∀ (H' : Hp) (v : V) (t : Tr), PoolOff p H H' → TrAt H' v t → t.fine → t.deep ≤ deep → (∀ x ∈ t.words, x ∈ ws) → Q v H'
theorem none_ltreeW {f : Addr} {fd : FuncData} {k : Nat} : FnOk P w K mg base CX0 k f fd ["pool", "words", "digits", "deep"] (spLTreeW 0) := by
  have no : ∀ vs H Q E, ¬ spLTreeW 0 vs H Q E := fun vs H Q E h => by
    obtain ⟨p, lw, lg, ws, ns, deep, _, _, _, h1, h0, _⟩ := h
    omega
  exact ⟨fun vs H Q E h => absurd h (no vs H Q E), fun A outer s H args us vs Q E _ _ _ _ h => absurd h (no vs H Q E)⟩
theorem ok_ltreeW {n d : Nat} {f : Addr} {fd : FuncData} (F : Fun K "_law_tree" "_law_tree" sLTree f fd) (T : BltT mg) (U : BltU mg) (b : Binds K fd ["pool", "words", "digits", "deep"] []) (m : mg "_law_tree" = some (.ref f))
    (D1 : Has P w K mg base "_law_take" 1 ["pool", "bound"] spTake) (D2 : Has P w K mg base "_law_one" 2 ["pool", "things"] (spOne K)) (G : FnOk P w K mg base CX0 (n + 2) f fd ["pool", "words", "digits", "deep"] (spLTreeW d)) :
    FnOk P w K mg base CX0 (n + 3) f fd ["pool", "words", "digits", "deep"] (spLTreeW (d + 1)) := by
  obtain ⟨f1, fd1, m1, k1, b1, G1⟩ := D1
  obtain ⟨f2, fd2, m2, k2, b2, G2⟩ := D2
  refine F.ok scLTree (fun vs H Q E h => ?_) (fun cdv A outer s H vs Q E hr h => ?_)
  · obtain ⟨p, lw, lg, ws, ns, deep, rfl, _⟩ := h
    rfl
  obtain ⟨p, lw, lg, ws, ns, deep, rfl, hp, st, h1, hd, q⟩ := h
  have r1 : Room 1 _ := hr.mono (by omega)
  have r2 : Room 2 _ := hr.mono (by omega)
  have rest : ∀ H1, PoolOff p H H1 → spOne K [.ref p, .ref lw] H1 Q E0 := fun H1 s1 => by
    have st1 := st.off s1.1
    refine ⟨p, .ref lw, rfl, s1.2, .inl ⟨lw, _, rfl, st.nw, SqL.of st1.hw, by rw [List.length_map]; exact st.w0, by rw [List.length_map]; exact st.w1, fun H2 i v hv s2 => ?_⟩⟩
    rw [List.getElem?_map] at hv
    cases e : ws[i]? with
    | none =>
      rw [e] at hv
      cases hv
    | some x =>
      rw [e] at hv
      cases hv
      exact q H2 _ (.wd x) (s1.trans s2) (.wd x) (st.ok x (List.mem_of_getElem? e)) h1 fun z hz => by
        simp [Tr.words] at hz
        subst hz
        exact List.mem_of_getElem? e
  have digs : ∀ H1, PoolOff p H H1 → spOne K [.ref p, .ref lg] H1 Q E0 := fun H1 s1 => by
    have st1 := st.off s1.1
    refine ⟨p, .ref lg, rfl, s1.2, .inl ⟨lg, _, rfl, st.ng, SqL.of st1.hg, by rw [List.length_map]; exact st.g0, by rw [List.length_map]; exact st.g1, fun H2 i v hv s2 => ?_⟩⟩
    rw [List.getElem?_map] at hv
    cases e : ns[i]? with
    | none =>
      rw [e] at hv
      cases hv
    | some x =>
      rw [e] at hv
      cases hv
      exact q H2 _ (.num x) (s1.trans s2) (.num x) (st.dg x (List.mem_of_getElem? e)) h1 fun z hz => by simp [Tr.words] at hz
  refine pss_split (PoolOff p H) ?second fun tR hR rR => ?first
  case first =>
    refine ⟨_, pss_cons (ps_if (PW.pt (pw_and (pt_cmpR op_gt (pv 3) pe_int (nomark _)) (pw_and1 (pt_cmpR op_eq (pe_call G1 r1 rfl m1 k1 b1 .nil pass0 (pa_cons (pv 0) (pa_cons pe_int pa_nil))) pe_int (nomark _)))))
      (pss_one (ps_ret (pe_callTy call_tuple_of (by rfl) T.tup (by decide +kernel) (pa_cons
        (pe_lc (own := [("part", 4)]) (g := gName 4) (tt := tYes) (by rfl) scLTree.nd (pi_range1 rfl U.range (pa_cons pe_int pa_nil)) (blkOk_by (own := [("part", 4)]) (N := nmLTree) (sc := defScope sLTree) (by decide +kernel)) (fun _ _ _ _ _ => pg_name (i := 4) scLTree.nd rfl (Or.inl rfl)) (fun _ _ _ _ _ => pts_nil)
          (fun _ _ _ _ _ => pe_call G hr rfl m F.kp b .nil pass0 (pa_cons (pv 0) (pa_cons (pv 1) (pa_cons (pv 2) (pa_cons (pe_op op_sub (pv 3) pe_int) pa_nil)))))) pa_nil)))) pss_nil) hR, ?_⟩
    refine ⟨_, rfl, _, _, rfl, rfl, _, rfl, ?_⟩
    refine ite2 (fun c => ?_) (fun c => ?_)
    · have c := of_decide_eq_true c
      obtain ⟨x, y, ep, x0, y0, y1⟩ := id hp
      refine ⟨_, rfl, p, x, y, 3, rfl, ep, x0, y0, y1, by decide, by decide, fun r x' y' _ _ a1 a2 a3 => ?_⟩
      have s1 : PoolOff p H (upd H p (.lst [.int x', .int y'])) := pool_upd a1 a2 a3
      generalize upd H p (.lst [.int x', .int y']) = H1 at s1
      refine ⟨rfl, _, rfl, ?_⟩
      refine ite2 (fun c1 => ?_) (fun c1 => ?_)
      · refine ⟨4, rfl, by decide, by decide, fun D hD => lc_poolR (R := fun _ G y => ∃ t : Tr, TrAt G y t ∧ t.fine ∧ t.deep + 1 ≤ deep ∧ ∀ x ∈ t.words, x ∈ ws) s1.2 hD (by decide) (fun _ => rfl) (fun i H2 R hi s2 hL hG => ?_) (fun H2 ys s2 d2 l2 hR => ?_)⟩
        · refine ⟨_, rfl, _, rfl, _, rfl, _, rfl, _, _, rfl, rfl, p, lw, lg, ws, ns, deep - 1, ?_, s2.2, st.off (s1.trans s2).1, by omega, by omega, fun H3 v t s3 ht hf hdd hww => ?_⟩
          · have e : ((deep : Int) - 1) = ((deep - 1 : Nat) : Int) := by omega
            show [V.ref p, V.ref lw, V.ref lg, V.int ((deep : Int) - 1)] = _
            rw [e]
          · have L3 : Lists [p, D] H3 := fun B mB => by
              simp only [List.mem_cons, List.not_mem_nil, or_false] at mB
              rcases mB with rfl | rfl
              · exact s3.2.lst
              · obtain ⟨zs, hz⟩ := hL B (by simp)
                exact ⟨zs, s3.1 _ _ hz (by simpa using s1.2.ne hD)⟩
            exact hG v H3 s3 fun H4 s4 => ⟨t, ht.off s4 L3, hf, by omega, hww⟩
        · match ys, l2 with
          | [y0, y1, y2, y3], _ =>
            obtain ⟨t0, a0, f0, e0, w0⟩ := hR 0 y0 rfl
            obtain ⟨t1, a1, f1, e1, w1⟩ := hR 1 y1 rfl
            obtain ⟨t2, a2, f2, e2, w2⟩ := hR 2 y2 rfl
            obtain ⟨t3, a3, f3, e3, w3⟩ := hR 3 y3 rfl
            refine ⟨D, _, rfl, .inl ⟨SqL.of d2, fun l hl => ?_⟩⟩
            have g : Same H2 (upd H2 l (.tup [y0, y1, y2, y3])) := same_upd hl _
            refine q _ _ (.ch t0 t1 t2 t3) ((s1.trans s2).trans ⟨Same.off g, s2.2.same g⟩) (.ch upd_same (a0.same g) (a1.same g) (a2.same g) (a3.same g)) ⟨f0, f1, f2, f3⟩ ?_ ?_
            · simp only [Tr.deep]
              omega
            · intro x hx
              simp only [Tr.words, List.mem_append, List.not_mem_nil, or_false] at hx
              rcases hx with hx | hx | hx | hx
              · exact w0 x hx
              · exact w1 x hx
              · exact w2 x hx
              · exact w3 x hx
      · exact rR H1 s1
    · exact rR H ⟨SameOff.refl _ _, hp⟩
  case second =>
    refine ⟨_, pss_cons (ps_if (PW.pt (pw_and (pt_cmpR (op_neD hr.units) (pv 2) (pe_lst pa_nil) (nomark _)) (pw_and1 (pt_cmpR op_eq (pe_call G1 r1 rfl m1 k1 b1 .nil pass0 (pa_cons (pv 0) (pa_cons pe_int pa_nil))) pe_int (nomark _)))))
      (pss_one (ps_ret (pe_call G2 r2 rfl m2 k2 b2 .nil pass0 (pa_cons (pv 0) (pa_cons (pv 2) pa_nil))))) pss_nil)
    (pss_one (ps_ret (pe_call G2 r2 rfl m2 k2 b2 .nil pass0 (pa_cons (pv 0) (pa_cons (pv 1) pa_nil))))), fun H1 s1 => ?_⟩
    have st1 := st.off s1.1
    refine ⟨_, rfl, by show 0 ≤ sizeLine; decide, fun l hl => ?_⟩
    have g : Same H1 (upd H1 l (.lst [])) := same_upd hl _
    have s2 : PoolOff p H (upd H1 l (.lst [])) := s1.trans ⟨Same.off g, s1.2.same g⟩
    refine ⟨intsD ns, .list [], .lst (SqL.of (g _ _ st1.hg)) (dpInts ns), .lst (SqL.of upd_same) .nil, shaped_mk (intsD_lay ns) (Nat.le_trans (intsD_dep ns) (by decide)), by decide +kernel, _, rfl, ?_⟩
    have e : PyData.eqv (intsD ns) (.list []) = false := by
      have := st.g0
      cases ns with
      | nil => simp at this
      | cons n ns => simp [intsD, PyData.eqv, PyData.eqvAll]
    rw [e]
    generalize upd H1 l (.lst []) = H2 at s2
    obtain ⟨x, y, ep, x0, y0, y1⟩ := id s2.2
    refine iteT ⟨_, rfl, p, x, y, 3, rfl, ep, x0, y0, y1, by decide, by decide, fun r x' y' _ _ a1 a2 a3 => ?_⟩
    have s3 : PoolOff p H2 (upd H2 p (.lst [.int x', .int y'])) := pool_upd a1 a2 a3
    generalize upd H2 p (.lst [.int x', .int y']) = H3 at s3
    refine ⟨rfl, _, rfl, ?_⟩
    refine ite2 (fun c1 => ?_) (fun c1 => ?_)
    · exact ⟨_, rfl, _, rfl, digs H3 (s2.trans s3)⟩
    · exact ⟨_, rfl, _, rfl, rest H3 (s2.trans s3)⟩
end
end TS
namespace TS
open PySem L2
/-! repr of a plain text is plain -/
theorem quote_or (x : Str) : reprQuote x = 39 ∨ reprQuote x = 34 := by
  unfold reprQuote
  split <;> simp
theorem char39 : ∀ c : Fin 128, (Builtin.Str.reprChar 39 c.val).all (fun d => decide (d < 128)) = true := by decide +kernel
theorem char34 : ∀ c : Fin 128, (Builtin.Str.reprChar 34 c.val).all (fun d => decide (d < 128)) = true := by decide +kernel
theorem char_plain {q c d : Nat} (hq : q = 39 ∨ q = 34) (hc : c < 128) (hd : d ∈ Builtin.Str.reprChar q c) : d < 128 := by
  rcases hq with rfl | rfl
  · exact of_decide_eq_true (List.all_eq_true.mp (char39 ⟨c, hc⟩) d hd)
  · exact of_decide_eq_true (List.all_eq_true.mp (char34 ⟨c, hc⟩) d hd)
theorem fold_flat (f : Nat → List Nat) : ∀ (l : List Nat) (init : Array Nat), (l.foldl (fun out c => out ++ List.toArray (f c)) init).toList = init.toList ++ l.flatMap f
  | [], init => by simp
  | c :: l, init => by
    rw [List.foldl_cons, fold_flat f l]
    simp
theorem repr_codes (x : Str) : (reprText x).cps.toList = reprQuote x :: (x.cps.toList.flatMap (Builtin.Str.reprChar (reprQuote x)) ++ [reprQuote x]) := by
  show (Array.push (Array.foldl (fun out c => out ++ List.toArray (Builtin.Str.reprChar (reprQuote x) c)) #[reprQuote x] x.cps) (reprQuote x)).toList = _
  rw [Array.toList_push, ← Array.foldl_toList, fold_flat]
  simp
theorem repr_plain {x : Str} (h : Plain x) : Plain (reprText x) := fun d hd => by
  have q := quote_or x
  have q128 : reprQuote x < 128 := by omega
  rw [repr_codes] at hd
  simp only [List.mem_cons, List.mem_append, List.mem_flatMap, List.not_mem_nil, or_false] at hd
  rcases hd with rfl | ⟨c, hc, hd⟩ | rfl
  · exact q128
  · exact char_plain q (h c hc) hd
  · exact q128
end TS
namespace TS
open PySem L2
abbrev sPart : Stmt := top 31
theorem paired_imp {α β : Type} {R R' : α → β → Prop} {l : List α} {l' : List β} (h : Paired R l l') (f : ∀ a b, R a b → R' a b) : Paired R' l l' := by
  induction h with
  | nil => exact .nil
  | cons x _ ih => exact .cons (f _ _ x) ih
/-- a pair in the heap -/
def PairAt (H : Hp) (q : Addr) (kv : Key × V) : Prop := H q = some (.tup [kV kv.1, kv.2])
section
variable {P : Program} {w : World} {K : PySem.W.Frag} {mg : Str → Option Value} {base : Heap}
theorem pool_tup {H : Hp} {p q : Addr} {xs : List V} (hp : PoolAt H p) (h : H q = some (.tup xs)) : q ≠ p := by
  obtain ⟨x, y, e, _⟩ := hp
  exact ne_of h e (by intro z; cases z)
theorem pool_dk {H : Hp} {p q : Addr} {xs : List (Key × V)} (hp : PoolAt H p) (h : H q = some (.dK xs)) : q ≠ p := by
  obtain ⟨x, y, e, _⟩ := hp
  exact ne_of h e (by intro z; cases z)
/-- [(word, e) for word in words], e perhaps taken from the pool -/
theorem lc_pairs {p l D : Addr} {ws : List Str} {k : Nat} {te : TE} {σ : St} {H : Hp} {Qd : Hp → Prop} (φ : V → Prop) (hp : PoolAt H p) (hl : H l = some (.lst (ws.map V.str))) (nl : l ≠ p) (h6 : ws.length ≤ 1000) (hD : H D = none)
    (hw : ∀ v, wipe ((wipe σ [k]).set k v) [k] = wipe σ [k])
    (step : ∀ (x : Str) (H1 : Hp) (G : VK), x ∈ ws → PoolOff p H H1 → (∀ (v : V) H2 tp, PoolOff p H1 H2 → φ v → H2 tp = none → G (.ref tp) (upd H2 tp (.tup [.str x, v]))) → te ((wipe σ [k]).set k (some (.str x))) H1 G)
    (hd : ∀ H1 ps more, PoolOff p H H1 → H1 D = some (.lst (ps.map V.ref)) → Paired (PairAt H1) ps more → keysK more = ws.map Sum.inr → (∀ q ∈ more, φ q.2) → Qd H1) :
    ∃ W : Nat → Nat → Hp → Prop, (∃ m, W 0 m (upd H D (.lst []))) ∧ ∀ i m H, W i m H →
      ((Itl K l).stop i H ∧ Qd H) ∨ ((Itl K l).go i H ∧ ∃ Nx : Hp → Prop, (∀ H', Nx H' → ∃ m', m' < m ∧ W (i + 1) m' H') ∧ ∀ x H', (Itl K l).yld i H x H' → gName k x (wipe σ [k]) H' fun σ2 H2 => wipe σ2 [k] = wipe σ [k] ∧ tYes σ2 H2 fun b H3 =>
        if b = true then te σ2 H3 fun y H4 => ∃ acc, H4 D = some (.lst acc) ∧ acc.length < sizeLine ∧ Nx (upd H4 D (.lst (acc ++ [y]))) else Nx H3) := by
  have nD : D ≠ p := hp.ne hD
  refine lc_list (K := K) (a := l) (xs := ws.map V.str) (fun i H1 => PoolOff p H H1 ∧ ∃ (ps : List Addr) (more : List (Key × V)), H1 D = some (.lst (ps.map V.ref)) ∧ ps.length = i ∧ Paired (PairAt H1) ps more ∧ keysK more = (ws.take i).map Sum.inr ∧ ∀ q ∈ more, φ q.2) ⟨⟨off_new (SameOff.refl _ _) hD, hp.same (same_upd hD _)⟩, [], [], upd_same, rfl, .nil, rfl, by simp⟩ (fun i H1 _ z => SqL.of (z.1.1 _ _ hl (by simpa using nl))) (fun i x H1 hx z => ?_) (fun H1 z => ?_)
  · obtain ⟨s1, ps, more, d1, l1, p1, k1, f1⟩ := z
    have hi : i < (ws.map V.str).length := (List.getElem?_eq_some_iff.mp hx).1
    rw [List.getElem?_map] at hx
    cases ex : ws[i]? with
    | none =>
      rw [ex] at hx
      cases hx
    | some x' =>
      rw [ex] at hx
      cases hx
      refine ⟨hw _, ?_⟩
      unfold tYes
      dsimp only
      rw [if_pos rfl]
      refine step x' H1 _ (List.mem_of_getElem? ex) s1 fun v H2 tp s2 pv htp => ?_
      have nDt : D ≠ tp := ne_of_none (s2.1 _ _ d1 (by simpa using nD)) htp
      have d2 : (upd H2 tp (.tup [.str x', v])) D = some (.lst (ps.map V.ref)) := by
        rw [upd_ne nDt]
        exact s2.1 _ _ d1 (by simpa using nD)
      have stay : ∀ {b o}, H1 b = some o → b ≠ p → b ≠ D → (upd (upd H2 tp (.tup [.str x', v])) D (.lst (ps.map V.ref ++ [.ref tp]))) b = some o := fun {b o} h n1 n2 => by
        have h2 := s2.1 b o h (by simpa using n1)
        rw [upd_ne n2, upd_ne (ne_of_none h2 htp)]
        exact h2
      have ntp : tp ≠ p := s2.2.ne htp
      have pool : PoolAt (upd (upd H2 tp (.tup [.str x', v])) D (.lst (ps.map V.ref ++ [.ref tp]))) p := by
        obtain ⟨x1, y1, e1, r1⟩ := id s2.2
        refine ⟨x1, y1, ?_, r1⟩
        rw [upd_ne nD.symm, upd_ne ntp.symm]
        exact e1
      refine ⟨_, d2, ?_, ⟨fun b o h n => ?_, pool⟩, ps ++ [tp], more ++ [(Sum.inr x', v)], ?_, by simp [l1], ?_, ?_, fun q hq => ?_⟩
      · rw [List.length_map, l1]
        rw [List.length_map] at hi
        exact small1000 (by omega)
      · have n' : b ≠ p := by simpa using n
        exact stay (s1.1 b o h n) n' (ne_of_none h hD)
      · rw [upd_same, List.map_append]
        rfl
      · refine Paired.snoc (paired_imp p1 fun q kv h => stay h (pool_tup s1.2 h) (ne_of h d1 (by intro z; cases z))) ?_
        show upd _ D _ tp = _
        rw [upd_ne nDt.symm, upd_same]
        rfl
      · rw [List.take_succ, ex]
        unfold keysK at k1 ⊢
        rw [List.map_append, k1]
        simp
      · rcases List.mem_append.mp hq with hq | hq
        · exact f1 q hq
        · simp at hq
          subst hq
          exact pv
  · obtain ⟨s1, ps, more, d1, l1, p1, k1, f1⟩ := z
    rw [List.length_map, List.take_length] at k1
    exact hd H1 ps more s1 d1 p1 k1 f1
/-! _law_part -/
abbrev nmPart : List Str := ["pool", "things", "thing"]
theorem scPart : FnScope nmPart ["pool", "things"] (defScope sPart) := ⟨rfl, rfl, rfl, by decide +kernel, rfl, by decide +kernel, by decide +kernel⟩
def spPart : Sp := fun vs H Q _ => ∃ (p l : Addr) (ws : List Str), vs = [.ref p, .ref l] ∧ PoolAt H p ∧ H l = some (.lst (ws.map V.str)) ∧ l ≠ p ∧ ws.length ≤ 1000 ∧
  ∀ (H' : Hp) (r : Addr) (ys : List Str), PoolOff p H H' → H r = none → H' r = some (.lst (ys.map V.str)) → (∀ y ∈ ys, y ∈ ws) → ys.length ≤ ws.length → Q (.ref r) H'
theorem ok_part {f : Addr} {fd : FuncData} (F : Fun K "_law_part" "_law_part" sPart f fd) (D1 : Has P w K mg base "_law_take" 1 ["pool", "bound"] spTake) : FnOk P w K mg base CX0 2 f fd ["pool", "things"] spPart := by
  obtain ⟨f1, fd1, m1, k1, b1, G1⟩ := D1
  refine F.ok scPart (fun vs H Q E h => ?_) (fun cdv A outer s H vs Q E hr h => ?_)
  · obtain ⟨p, l, ws, rfl, _⟩ := h
    rfl
  obtain ⟨p, l, ws, rfl, hp, hl, nl, h6, q⟩ := h
  refine ⟨_, pss_one (ps_ret (pe_lc (own := [("thing", 2)]) (g := gName 2) (tt := tTest (tOp rEq (tCall spTake [] E0 (tCons (tVar 0) (tCons (tC (.int 2)) tNil))) (tC (.int 0)))) (by rfl) scPart.nd (pi_list (pv 1)) (blkOk_by (own := [("thing", 2)]) (N := nmPart) (sc := defScope sPart) (by decide +kernel)) (fun _ _ _ _ _ => pg_name (i := 2) scPart.nd rfl (Or.inl rfl))
      (fun _ _ _ _ _ => pts_one (pt_cmpR op_eq (pe_call G1 hr rfl m1 k1 b1 .nil pass0 (pa_cons (pv 0) (pa_cons pe_int pa_nil))) pe_int (nomark _))) (fun _ _ _ _ _ => pv 2))), ?_⟩
  refine ⟨_, rfl, l, rfl, ⟨_, SqL.of hl⟩, fun D hD => ?_⟩
  have nD : D ≠ p := hp.ne hD
  refine lc_list (K := K) (a := l) (xs := ws.map V.str) (fun i H1 => PoolOff p H H1 ∧ ∃ ys : List Str, H1 D = some (.lst (ys.map V.str)) ∧ ys.length ≤ i ∧ ∀ y ∈ ys, y ∈ ws) ⟨⟨off_new (SameOff.refl _ _) hD, hp.same (same_upd hD _)⟩, [], upd_same, Nat.le_refl _, by simp⟩ (fun i H1 _ z => SqL.of (z.1.1 _ _ hl (by simpa using nl))) (fun i x H1 hx z => ?_) (fun H1 z => ?_)
  · obtain ⟨s1, ys, d1, l1, m1'⟩ := z
    have hi : i < (ws.map V.str).length := (List.getElem?_eq_some_iff.mp hx).1
    rw [List.length_map] at hi
    rw [List.getElem?_map] at hx
    cases ex : ws[i]? with
    | none =>
      rw [ex] at hx
      cases hx
    | some x' =>
      rw [ex] at hx
      cases hx
      obtain ⟨x1, y1, e1, x10, y10, y11⟩ := id s1.2
      refine ⟨rfl, _, rfl, p, x1, y1, 2, rfl, e1, x10, y10, y11, by decide, by decide, fun r xx yy r0 r1 a0 b0 b1 => ?_⟩
      have s2 : PoolOff p H1 (upd H1 p (.lst [.int xx, .int yy])) := pool_upd a0 b0 b1
      generalize upd H1 p (.lst [.int xx, .int yy]) = H2 at s2
      have s12 := s1.trans s2
      have d2 := s2.1 _ _ d1 (by simpa using nD)
      refine ⟨rfl, _, rfl, ?_⟩
      refine ite2 (fun c => ?_) (fun c => ?_)
      · have pool : PoolAt (upd H2 D (.lst (ys.map V.str ++ [.str x']))) p := by
          obtain ⟨x2, y2, e2, r2⟩ := id s2.2
          refine ⟨x2, y2, ?_, r2⟩
          rw [upd_ne nD.symm]
          exact e2
        refine ⟨_, rfl, _, d2, ?_, ⟨fun b o h n => ?_, pool⟩, ys ++ [x'], ?_, ?_, fun y hy => ?_⟩
        · rw [List.length_map]
          exact small1000 (by omega)
        · rw [upd_ne (ne_of_none h hD)]
          exact s12.1 b o h n
        · rw [upd_same, List.map_append]
          rfl
        · simp only [List.length_append, List.length_cons, List.length_nil]
          omega
        · rcases List.mem_append.mp hy with hy | hy
          · exact m1' y hy
          · simp at hy
            subst hy
            exact List.mem_of_getElem? ex
      · exact ⟨s12, ys, d2, by omega, m1'⟩
  · obtain ⟨s1, ys, d1, l1, m1'⟩ := z
    rw [List.length_map] at l1
    exact q H1 D ys s1 hD d1 m1' l1
end
end TS
namespace TS
open PySem L2
/-! what repr tells of a list of pairs (text, number) is plain, and short -/
theorem plain_app {a b : Str} (ha : Plain a) (hb : Plain b) : Plain (a ++ b) := fun c h => by
  rw [codes_append] at h
  rcases List.mem_append.mp h with h | h
  · exact ha c h
  · exact hb c h
theorem plain_by {x : Str} (h : x.cps.toList.all (fun c => decide (c < 128)) = true) : Plain x := fun c hc => of_decide_eq_true (List.all_eq_true.mp h c hc)
theorem plain_from : ∀ (ts : List Str) (k : Nat) (acc : Str), Plain acc → (∀ t ∈ ts, Plain t) → Plain (textFrom k acc ts)
  | [], _, acc, h, _ => h
  | t :: r, k, acc, h, ht => by
    show Plain (textFrom (k + 1) (acc ++ (if k > 0 then ", " else "" : String) ++ t) r)
    refine plain_from r _ _ (plain_app (plain_app h ?_) (ht t (by simp))) fun z hz => ht z (by simp [hz])
    split
    · exact plain_by (by decide +kernel)
    · exact plain_by (by decide +kernel)
theorem plain_list {ts : List Str} (h : ∀ t ∈ ts, Plain t) : Plain (listText ts) := by
  unfold listText
  exact plain_app (plain_from ts 0 _ (plain_by (by decide +kernel)) h) (plain_by (by decide +kernel))
theorem plain_join : ∀ (ts : List Str), (∀ t ∈ ts, Plain t) → Plain (Str.join ", " ts)
  | [], _ => plain_by (by decide +kernel)
  | [x], h => h x (by simp)
  | x :: y :: r, h => by
    show Plain (x ++ ", " ++ Str.join ", " (y :: r))
    exact plain_app (plain_app (h x (by simp)) (plain_by (by decide +kernel))) (plain_join (y :: r) fun z hz => h z (by simp only [List.mem_cons] at hz ⊢; exact .inr hz))
theorem plain_tuple {ts : List Str} (h : ∀ t ∈ ts, Plain t) : Plain (tupleText ts) := by
  unfold tupleText
  refine plain_app (plain_app (plain_by (by decide +kernel)) (plain_join ts h)) ?_
  split
  · exact plain_by (by decide +kernel)
  · exact plain_by (by decide +kernel)
theorem plain_int (i : Int) : Plain ((toString i : String) : Str) := fun c hc => by
  by_cases h : c < 128
  · exact h
  · exact absurd hc (PyProof.Rows.shown_int_free' (k := c) ⟨by omega, .inr (by omega)⟩ i)
def pairD (c : Str × Int) : PyData := .tuple [.str c.1, .int c.2]
def pairsD (cs : List (Str × Int)) : PyData := .list (cs.map pairD)
/-- a word and a number of few bits -/
def SmallC (c : Str × Int) : Prop := WordOk c.1 ∧ c.2.natAbs < 2 ^ 64
theorem small_bits {n : Int} (h : n.natAbs < 2 ^ 64) : n.natAbs.log2 < 64 := by
  by_cases z : n.natAbs = 0
  · rw [z]; decide
  · exact (Nat.log2_lt z).mpr h
theorem pairs_all {φ : PyData → Bool} {φs : List PyData → Bool} (h0 : φs [] = true) (h1 : ∀ x xs, φ x = true → φs xs = true → φs (x :: xs) = true) : ∀ cs : List (Str × Int), (∀ c ∈ cs, φ (pairD c) = true) → φs (cs.map pairD) = true
  | [], _ => h0
  | c :: r, h => h1 _ _ (h c (by simp)) (pairs_all h0 h1 r fun d hd => h d (by simp [hd]))
theorem pairs_showable {cs : List (Str × Int)} (h : ∀ c ∈ cs, SmallC c) : (pairsD cs).showable = true := by
  show PyData.showableAll (cs.map pairD) = true
  refine pairs_all (φ := PyData.showable) rfl (fun x xs a b => by simp [PyData.showableAll, a, b]) cs fun c hc => ?_
  have := small_bits (h c hc).2
  simp [pairD, PyData.showable, PyData.showableAll]
  omega
theorem pairs_noDict (cs : List (Str × Int)) : (pairsD cs).hasDict = false := by
  show PyData.hasDictAll (cs.map pairD) = false
  induction cs with
  | nil => rfl
  | cons c r ih => simp [PyData.hasDictAll, ih, pairD, PyData.hasDict]
theorem pairs_depth (cs : List (Str × Int)) : (pairsD cs).depth ≤ 3 := by
  have h : PyData.depthAll (cs.map pairD) ≤ 2 := by
    induction cs with
    | nil => simp [PyData.depthAll]
    | cons c r ih =>
      simp only [List.map_cons, PyData.depthAll]
      have : (pairD c).depth ≤ 1 := by simp [pairD, PyData.depth, PyData.depthAll]
      omega
  simp only [pairsD, PyData.depth]
  omega
theorem pairs_short {cs : List (Str × Int)} (h : ∀ c ∈ cs, SmallC c) : PyData.leavesShort 1921 (pairsD cs) = true := by
  show PyData.leavesShortAll 1921 (cs.map pairD) = true
  refine pairs_all (φ := PyData.leavesShort 1921) rfl (fun x xs a b => by simp [PyData.leavesShortAll, a, b]) cs fun c hc => ?_
  obtain ⟨hw, hn⟩ := h c hc
  have p := plain_word hw
  have e : (PyData.shown (.int c.2)).length ≤ 1921 := PyProof.Rows.int_text_len_1921 (by have := small_bits hn; omega)
  simp only [pairD, PyData.leavesShort, PyData.leavesShortAll, Bool.and_true, Bool.and_eq_true, List.all_eq_true, decide_eq_true_eq]
  refine ⟨fun d hd => ?_, e⟩
  have := p d hd
  omega
theorem pairs_weight : ∀ {cs : List (Str × Int)}, (∀ c ∈ cs, SmallC c) → PyData.weightAll (cs.map pairD) ≤ 76 * cs.length
  | [], _ => by simp [PyData.weightAll]
  | c :: r, h => by
    have ih := pairs_weight (cs := r) fun d hd => h d (by simp [hd])
    obtain ⟨hw, hn⟩ := h c (by simp)
    have b := small_bits hn
    have l : c.1.cps.size ≤ 8 := hw.2.1
    have hi : PyData.weight (.int c.2) ≤ 64 := by
      simp only [PyData.weight]
      split <;> omega
    have hp : (pairD c).weight ≤ 75 := by
      show PyData.weight (.str c.1) + 1 + (PyData.weight (.int c.2) + 1 + 0) ≤ 75
      have : PyData.weight (.str c.1) ≤ 8 := l
      omega
    simp only [List.map_cons, PyData.weightAll, List.length_cons]
    omega
theorem pairs_len {cs : List (Str × Int)} (h : ∀ c ∈ cs, SmallC c) (hl : cs.length ≤ 100) : (pairsD cs).shown.length ≤ sizeLine := by
  have h1 := PyData.shown_le 1921 (by decide) _ (pairs_short h)
  have h2 : (pairsD cs).weight ≤ 7600 := Nat.le_trans (pairs_weight h) (by omega)
  rw [sizeLine_eq]
  omega
theorem pairs_plain {cs : List (Str × Int)} (h : ∀ c ∈ cs, SmallC c) : Plain (pairsD cs).shown := by
  show Plain (listText (PyData.shownAll (cs.map pairD)))
  refine plain_list fun t ht => ?_
  rw [PyProof.Rows.shownAll_eq_map, List.map_map] at ht
  obtain ⟨c, hc, rfl⟩ := List.mem_map.mp ht
  show Plain (tupleText (PyData.shownAll [.str c.1, .int c.2]))
  refine plain_tuple fun s hs => ?_
  simp only [PyData.shownAll, List.mem_cons, List.not_mem_nil, or_false] at hs
  rcases hs with rfl | rfl
  · exact repr_plain (plain_word (h c hc).1)
  · exact plain_int c.2
end TS
namespace TS
open PySem L2
/-! statements by what holds ahead and behind, for a ghost i -/
section
variable {ι : Type} {X : Cx} {st : Stmt} {sts : List Stmt} {φ ψ χ : ι → St → Hp → Prop}
def Stm (X : Cx) (st : Stmt) (φ ψ : ι → St → Hp → Prop) : Prop := ∃ t, PS X st t ∧ ∀ i D σ H, φ i σ H → (∀ σ' H', ψ i σ' H' → D.nx σ' H') → t D σ H
def Stms (X : Cx) (sts : List Stmt) (φ ψ : ι → St → Hp → Prop) : Prop := ∃ t, PSs X sts t ∧ ∀ i D σ H, φ i σ H → (∀ σ' H', ψ i σ' H' → D.nx σ' H') → t D σ H
theorem Stms.nil : Stms X [] φ φ := ⟨_, pss_nil, fun i D σ H h k => k σ H h⟩
theorem Stms.cons (h1 : Stm X st φ ψ) (h2 : Stms X sts ψ χ) : Stms X (st :: sts) φ χ := by
  obtain ⟨t, a, b⟩ := h1
  obtain ⟨u, c, d⟩ := h2
  exact ⟨_, pss_cons a c, fun i D σ H h k => b i _ σ H h fun σ' H' g => d i D σ' H' g k⟩
theorem Stms.one (h1 : Stm X st φ ψ) : Stms X [st] φ ψ := by
  obtain ⟨t, a, b⟩ := h1
  exact ⟨_, pss_one a, fun i D σ H h k => b i D σ H h k⟩
theorem Stm.imp {φ' ψ' : ι → St → Hp → Prop} (h : Stm X st φ ψ) (p : ∀ i σ H, φ' i σ H → φ i σ H) (q : ∀ i σ H, ψ i σ H → ψ' i σ H) : Stm X st φ' ψ' := by
  obtain ⟨t, a, b⟩ := h
  exact ⟨t, a, fun i D σ H h k => b i D σ H (p _ _ _ h) fun σ' H' g => k _ _ (q _ _ _ g)⟩
end
/-- the body of a for -/
def forBody : Stmt → List Stmt
  | .For _ _ b _ _ => b
  | _ => []
abbrev noStmt : Stmt := .Pass ⟨0, 0, 0, 0⟩
/-- for i, x in enumerate(list) -/
theorem for_enum {K : PySem.W.Frag} {a : Addr} {xs : List V} {g : TG} {tb : TS} {D : Ends} {σ : St} {H : Hp} (Pv : Nat → St → Hp → Prop) (h0 : Pv 0 σ H) (hl : ∀ i σ H, i ≤ xs.length → Pv i σ H → SqL K H a xs)
    (hs : ∀ i x T σ H, xs[i]? = some x → Pv i σ H → H T = none → g (.ref T) σ (upd H T (.tup [.int (i : Nat), x])) fun σ2 H2 => tb { D with nx := Pv (i + 1), ct := Pv (i + 1), bk := D.nx } σ2 H2) (hd : ∀ σ H, Pv xs.length σ H → D.nx σ H) :
    ∃ W : Nat → Nat → St → Hp → Prop, (∃ m, W 0 m σ H) ∧ ∀ i m σ H, W i m σ H →
      ((Ite K a).stop i H ∧ D.nx σ H) ∨ ((Ite K a).go i H ∧ ∃ N : St → Hp → Prop, (∀ σ' H', N σ' H' → ∃ m', m' < m ∧ W (i + 1) m' σ' H') ∧ ∀ x H', (Ite K a).yld i H x H' → g x σ H' fun σ2 H2 => tb { D with nx := N, ct := N, bk := D.nx } σ2 H2) := by
  refine ⟨fun i m σ H => m = xs.length - i ∧ i ≤ xs.length ∧ Pv i σ H, ⟨xs.length, by simp, Nat.zero_le _, h0⟩, ?_⟩
  rintro i m σ H ⟨rfl, hi, p⟩
  have q := hl i σ H hi p
  by_cases hlt : i < xs.length
  · refine .inr ⟨⟨xs, xs[i], q, by simp [hlt]⟩, Pv (i + 1), fun σ' H' p' => ⟨xs.length - (i + 1), by omega, rfl, hlt, p'⟩, fun x H' y => ?_⟩
    obtain ⟨T, z, rfl, nT, rfl, y⟩ := y
    exact hs i z T σ _ (y xs q) p nT
  · have e : i = xs.length := by omega
    subst e
    exact .inl ⟨⟨xs, q, Nat.le_refl _⟩, hd σ H p⟩
end TS
namespace TS
open PySem L2
abbrev sLaw : Stmt := top 42
abbrev bLaw : List Stmt := forBody ((defBody sLaw).getD 0 noStmt)
abbrev bIn : List Stmt := forBody (bLaw.getD 4 noStmt)
abbrev nmLaw : List Str := ["script", "k", "pool", "words", "menu", "held", "turn", "tree", "term", "first", "less", "odd", "more", "some", "thing", "word"]
theorem scLaw : FnScope nmLaw ["script"] (defScope sLaw) := ⟨rfl, rfl, rfl, by decide +kernel, rfl, by decide +kernel, by decide +kernel⟩
def HasG (P : Program) (w : World) (K : PySem.W.Frag) (mg : Str → Option Value) (base : Heap) (name : Str) (k : Nat) (ps : List Str) (sp : Sp) : Prop :=
  ∃ (f : Addr) (fd : FuncData), mg name = some (.ref f) ∧ PySem.W.keepIn K (.ref f) = true ∧ Binds K fd ps [] ∧ FnG P w K mg base k f fd ps sp
/-- what is told, as data -/
def outD (kvs : List (Key × V)) (ws : List Str) (t : Tr) : PyData := match firstBad kvs ws with
  | some x => .list [.str "name", .str (reprText x), .bool true, .bool false]
  | none => .list [.str "worth", .int (t.worth (rhoOf kvs))]
def noneD (r : Str) : PyData := .list [.str "none", .str r]
theorem plain_none : Plain "none" := plain_by (by decide +kernel)
theorem plain_name : Plain "name" := plain_by (by decide +kernel)
theorem plain_worth : Plain "worth" := plain_by (by decide +kernel)
theorem outD_dp {K : PySem.W.Frag} {H : Hp} {l : Addr} {kvs : List (Key × V)} {ws : List Str} {t : Tr} (h : H l = some (.lst (outL kvs ws t))) : Dp K H (.ref l) (outD kvs ws t) := by
  unfold outL at h
  unfold outD
  cases e : firstBad kvs ws with
  | none =>
    rw [e] at h
    exact .lst (SqL.of h) (.cons (.str _) (.cons (.int _) .nil))
  | some x =>
    rw [e] at h
    exact .lst (SqL.of h) (.cons (.str _) (.cons (.str _) (.cons (.bl _) (.cons (.bl _) .nil))))
theorem outD_shaped {kvs : List (Key × V)} {ws : List Str} {t : Tr} (hf : t.fine) (o : Ord t ws) : SeqAt.shaped (outD kvs ws t) = true := by
  unfold outD
  cases e : firstBad kvs ws with
  | none => exact shaped_mk (by simp [PyData.canLay0, PyData.canLayAll0, plain_worth.ok]) (by simp [PyData.depth, PyData.depthAll])
  | some x =>
    have px := repr_plain (plain_word (fine_words hf x (o.mem.mp (firstBad_mem e))))
    exact shaped_mk (by simp [PyData.canLay0, PyData.canLayAll0, plain_name.ok, px.ok]) (by simp [PyData.depth, PyData.depthAll])
theorem outD_self {kvs : List (Key × V)} {ws : List Str} {t : Tr} : PyData.eqv (outD kvs ws t) (outD kvs ws t) = true := by
  unfold outD
  cases firstBad kvs ws <;> simp [PyData.eqv, PyData.eqvAll]
theorem noneD_shaped {r : Str} (h : Plain r) : SeqAt.shaped (noneD r) = true := shaped_mk (by simp [noneD, PyData.canLay0, PyData.canLayAll0, plain_none.ok, h.ok]) (by simp [noneD, PyData.depth, PyData.depthAll])
theorem noneD_dp {K : PySem.W.Frag} {H : Hp} {l : Addr} {z : Str} (h : H l = some (.lst [.str "none", .str z])) : Dp K H (.ref l) (noneD z) := .lst (SqL.of h) (.cons (.str _) (.cons (.str _) .nil))
theorem noneD_self {z : Str} : PyData.eqv (noneD z) (noneD z) = true := by simp [noneD, PyData.eqv, PyData.eqvAll]
/-- an entry of the held dict -/
def ent (c : Str × Int) : Key × V := (Sum.inr c.1, V.int c.2)
structure GL where
  kk : V
  p : Addr
  lw : Addr
  lm : Addr
  dh : Addr
  ws : List Str
  cs : List (Str × Int)
  v7 : V
  t : Tr
  H0 : Hp
abbrev GL.kvs (g : GL) : List (Key × V) := g.cs.map ent
structure GL.Ok (g : GL) : Prop where
  pl : PoolAt g.H0 g.p
  hw : g.H0 g.lw = some (.lst (g.ws.map V.str))
  nw : g.lw ≠ g.p
  hh : g.H0 g.dh = some (.dK g.kvs)
  w0 : 0 < g.ws.length
  w1 : g.ws.length ≤ 26
  wok : ∀ x ∈ g.ws, WordOk x
  sm : ∀ c ∈ g.cs, SmallC c
  cl : g.cs.length ≤ 26
  nd : (keysK g.kvs).Nodup
  kin : ∀ x ∈ g.ws, Sum.inr x ∈ keysK g.kvs
  hf : g.t.fine
  hd : g.t.deep ≤ 3
  tw : ∀ x ∈ g.t.words, x ∈ g.ws
/-- a Term that stays one whatever the pool -/
def TermOff (C p : Addr) (H : Hp) (a : Addr) (t : Tr) : Prop := ∀ G, SameOff [p] H G → TermAt C G a t
theorem TermOff.off {C p a : Addr} {H H' : Hp} {t : Tr} (h : TermOff C p H a t) (s : SameOff [p] H H') : TermOff C p H' a t := fun G sG => h G (s.trans sG)
theorem TermOff.now {C p a : Addr} {H : Hp} {t : Tr} (h : TermOff C p H a t) : TermAt C H a t := h H (SameOff.refl _ _)
/-- a dict of cells -/
def DictC (H : Hp) (d : Addr) (kv : List (Key × V)) : Prop := H d = some (.dK kv) ∧ ∀ q ∈ kv, CellV H q.2
theorem DictC.same {H H' : Hp} {d : Addr} {kv : List (Key × V)} (h : DictC H d kv) (s : Same H H') : DictC H' d kv := ⟨s _ _ h.1, fun q hq => (h.2 q hq).same s⟩
section
variable {P : Program} {w : World} {K : PySem.W.Frag} {mg : Str → Option Value} {base : Heap}
theorem DictC.off {H H' : Hp} {p d : Addr} {kv : List (Key × V)} (h : DictC H d kv) (hp : PoolAt H p) (s : SameOff [p] H H') : DictC H' d kv := by
  refine ⟨s _ _ h.1 (by simpa using pool_dk hp h.1), fun q hq => ?_⟩
  have c := h.2 q hq
  revert c
  cases q.2 with
  | int i => exact fun _ => .int i
  | non => exact fun _ => .non
  | bl b => exact fun _ => .bl b
  | str x => exact fun _ => .str x
  | ref a =>
    intro c
    cases c with
    | tup e => exact .tup (s _ _ e (by simpa using pool_tup hp e))
  | _ => intro c; cases c
abbrev lawX (P : Program) (w : World) (K : PySem.W.Frag) (mg : Str → Option Value) (base : Heap) (f : Addr) (cdv : Value) (A : Around) (outer : List Env) (s : Shared) (H0 : Hp) (E : XK) : Cx := (cxOf CX0 P w K mg base nmLaw "law" (defScope sLaw) f cdv A outer s H0 E).nox
variable {f C a : Addr} {cdv : Value} {A : Around} {outer : List Env} {s : Shared} {H0 : Hp} {E : XK}
def F3 (C a : Addr) (g : GL) (σ : St) (H : Hp) : Prop := ∃ p8 : Addr, (∃ j6 j9 j10 j11 j12 j13 j14 j15 : Option V, σ = [some (.ref a), some g.kk, some (.ref g.p), some (.ref g.lw), some (.ref g.lm), some (.ref g.dh), j6, some g.v7, some (.ref p8), j9, j10, j11, j12, j13, j14, j15]) ∧
  PoolOff g.p g.H0 H ∧ TrAt H g.v7 g.t ∧ TermOff C g.p H p8 g.t ∧ g.Ok
def F6 (C a : Addr) (g : GL) (σ : St) (H : Hp) : Prop := ∃ (p8 d10 d11 d12 : Addr) (k10 k11 k12 : List (Key × V)), (∃ j6 j9 j13 j14 j15 : Option V, σ = [some (.ref a), some g.kk, some (.ref g.p), some (.ref g.lw), some (.ref g.lm), some (.ref g.dh), j6, some g.v7, some (.ref p8), j9, some (.ref d10), some (.ref d11), some (.ref d12), j13, j14, j15]) ∧
  PoolOff g.p g.H0 H ∧ TrAt H g.v7 g.t ∧ TermOff C g.p H p8 g.t ∧ DictC H d10 k10 ∧ DictC H d11 k11 ∧ DictC H d12 k12 ∧ g.Ok
/-- for some in [less, odd, more, {}] -/
theorem b_some (hr : Room 14 (lawX P w K mg base f cdv A outer s H0 E).A) (hG : (lawX P w K mg base f cdv A outer s H0 E).A.guards = some []) (D1 : HasG P w K mg base "_law_told" 6 ["term", "held"] (spTold3 K C)) (D2 : HasG P w K mg base "_law_due" 5 ["tree", "held"] spDue3) :
    Stm (lawX P w K mg base f cdv A outer s H0 E) (bIn.getD 7 noStmt) (F6 C a) (F3 C a) := by
  obtain ⟨f1, fd1, m1, k1, b1, G1⟩ := D1
  obtain ⟨f2, fd2, m2, k2, b2, G2⟩ := D2
  have r5 : Room 5 (lawX P w K mg base f cdv A outer s H0 E).A := hr.mono (by decide)
  have r6 : Room 6 (lawX P w K mg base f cdv A outer s H0 E).A := hr.mono (by decide)
  refine ⟨_, ps_for PassesOwn.never rfl (pi_list (pe_lst (pa_cons (pv 10) (pa_cons (pv 11) (pa_cons (pv 12) (pa_cons pe_dnewK pa_nil)))))) (pg_name (i := 13) scLaw.nd rfl (.inl rfl))
    (pss_one (ps_if (pt_cmpR (op_neD hr.units) (pe_callG (E := E0) G1 hG r6 rfl m1 k1 b1 (pa_cons (pv 8) (pa_cons (pv 13) pa_nil))) (pe_callG (E := E0) G2 hG r5 rfl m2 k2 b2 (pa_cons (pv 7) (pa_cons (pv 13) pa_nil))) (nomark _)) (pss_one (ps_ret pe_bl)) pss_nil)), fun g D σ H h k => ?_⟩
  obtain ⟨p8, d10, d11, d12, k10, k11, k12, ⟨j6, j9, j13, j14, j15, rfl⟩, s0, ht, h8, c10, c11, c12, ok⟩ := h
  refine ⟨_, rfl, _, rfl, _, rfl, fun d hd => ?_⟩
  have g1 : Same H (upd H d (.dK [])) := same_upd hd _
  have v1 : (upd H d (.dK [])) d = some (.dK []) := upd_same
  generalize upd H d (.dK []) = H1 at g1 v1
  refine ⟨by show 4 ≤ sizeLine; decide, fun L hL => ?_⟩
  have g2 : Same H1 (upd H1 L (.lst [.ref d10, .ref d11, .ref d12, .ref d])) := same_upd hL _
  have v2 : (upd H1 L (.lst [.ref d10, .ref d11, .ref d12, .ref d])) L = some (.lst [.ref d10, .ref d11, .ref d12, .ref d]) := upd_same
  generalize upd H1 L (.lst [.ref d10, .ref d11, .ref d12, .ref d]) = H2 at g2 v2
  have g12 := g1.trans g2
  have all : ∀ x ∈ [V.ref d10, .ref d11, .ref d12, .ref d], ∃ (d : Addr) (kv : List (Key × V)), x = .ref d ∧ DictC H2 d kv := fun x hx => by
    simp only [List.mem_cons, List.not_mem_nil, or_false] at hx
    rcases hx with rfl | rfl | rfl | rfl
    · exact ⟨_, _, rfl, c10.same g12⟩
    · exact ⟨_, _, rfl, c11.same g12⟩
    · exact ⟨_, _, rfl, c12.same g12⟩
    · exact ⟨_, _, rfl, g2 _ _ v1, by simp⟩
  have so : SameOff [g.p] H H2 := Same.off g12
  refine ⟨L, rfl, ⟨_, SqL.of v2⟩, for_list (K := K) (a := L) (xs := [.ref d10, .ref d11, .ref d12, .ref d]) (fun i σ' H' => Same H2 H' ∧ ∃ j6 j9 j10 j11 j12 j13 j14 j15 : Option V, σ' = [some (.ref a), some g.kk, some (.ref g.p), some (.ref g.lw), some (.ref g.lm), some (.ref g.dh), j6, some g.v7, some (.ref p8), j9, j10, j11, j12, j13, j14, j15]) ⟨Same.refl _, _, _, _, _, _, _, _, _, rfl⟩ (fun i σ' H' _ h => SqL.of (h.1 _ _ v2)) ?_ ?_⟩
  · rintro i x σ' H' hx ⟨s3, j6, j9, j10, j11, j12, j13, j14, j15, rfl⟩
    obtain ⟨d, kv, rfl, hd0⟩ := all x (List.mem_of_getElem? hx)
    have hd3 := hd0.same s3
    have ht3 := (ht.same g12).same s3
    refine ⟨_, rfl, _, rfl, p8, g.t, .ref d, rfl, h8 H' (so.trans (Same.off s3)), .inl ⟨d, kv, rfl, hd3.1, hd3.2, fun ws1 H4 l1 o1 s4 h1 => ?_⟩⟩
    have hd4 := hd3.same s4
    refine ⟨_, rfl, _, rfl, g.v7, g.t, d, kv, rfl, ht3.same s4, ok.hf, ok.hd, hd4.1, hd4.2, fun ws2 H5 l2 o2 s5 h2 => ?_⟩
    have e := o1.same o2
    subst e
    refine ⟨outD kv ws1 g.t, outD kv ws1 g.t, outD_dp (s5 _ _ h1), outD_dp h2, outD_shaped ok.hf o1, outD_shaped ok.hf o1, _, rfl, ?_⟩
    rw [outD_self]
    exact iteF ⟨(s3.trans s4).trans s5, _, _, _, _, _, _, _, _, rfl⟩
  · rintro σ' H' ⟨s3, j6, j9, j10, j11, j12, j13, j14, j15, rfl⟩
    have g13 := g12.trans s3
    exact k _ _ ⟨p8, ⟨_, _, _, _, _, _, _, _, rfl⟩, s0.trans ⟨Same.off g13, s0.2.same g13⟩, ht.same g13, h8.off (Same.off g13), ok⟩
end
end TS
namespace TS
open PySem L2
theorem TyX.same {K : PySem.W.Frag} {H H' : Hp} {v : V} {t : Value} (h : TyX K H v t) (s : Same H H') : TyX K H' v t := by
  cases h with
  | base h =>
    refine .base ?_
    cases h with
    | non => exact .non
    | bl x => exact .bl x
    | int i => exact .int i
    | str x => exact .str x
    | flt x => exact .flt x
    | lst h => exact .lst (s _ _ h)
    | frz h => exact .frz (s _ _ h)
    | tup h => exact .tup (s _ _ h)
    | dK h => exact .dK (s _ _ h)
    | dT h => exact .dT (s _ _ h)
    | ins h a b c d e => exact .ins (s _ _ h) a b c d e
  | byt b => exact .byt b
  | set h => exact .set (s _ _ h)
  | kList a b => exact .kList a b
  | kTuple a b => exact .kTuple a b
  | kDict a b => exact .kDict a b
  | fTuple h => exact .fTuple (s _ _ h)
  | fDict h => exact .fDict (s _ _ h)
theorem dp_pairs {K : PySem.W.Frag} {H : Hp} : ∀ {ts : List Addr} {cs : List (Str × Int)}, Paired (PairAt H) ts (cs.map ent) → DpAll K H (ts.map V.ref) (cs.map pairD)
  | [], [], _ => .nil
  | t :: ts, c :: cs, h => by
    cases h with
    | cons h r => exact .cons (.tup (SqT.of h) (.cons (.str _) (.cons (.int _) .nil))) (dp_pairs r)
  | [], c :: cs, h => by cases h
  | t :: ts, [], h => by cases h
theorem GL.Ok.si {g : GL} (ok : g.Ok) : StrInts g.kvs := fun q hq => by
  obtain ⟨c, _, rfl⟩ := List.mem_map.mp hq
  exact ⟨c.1, c.2, rfl⟩
theorem GL.Ok.cells {g : GL} (ok : g.Ok) (H : Hp) : ∀ q ∈ g.kvs, CellV H q.2 := fun q hq => by
  obtain ⟨c, _, rfl⟩ := List.mem_map.mp hq
  exact .int _
theorem GL.Ok.dict {g : GL} (ok : g.Ok) {H : Hp} (s : PoolOff g.p g.H0 H) : H g.dh = some (.dK g.kvs) := s.1 _ _ ok.hh (by simpa using pool_dk ok.pl ok.hh)
theorem GL.Ok.there {g : GL} (ok : g.Ok) {x : Str} (h : x ∈ g.ws) : ∃ u, (Sum.inr x, u) ∈ g.kvs := by
  obtain ⟨q, hq, e⟩ := List.mem_map.mp (ok.kin x h)
  exact ⟨q.2, by rw [← e]; exact hq⟩
section
variable {P : Program} {w : World} {K : PySem.W.Frag} {mg : Str → Option Value} {base : Heap}
variable {f C a : Addr} {cdv : Value} {A : Around} {outer : List Env} {s : Shared} {H0 : Hp} {E : XK}
/-- for thing in [None, 5, [], ('a', 1), 'a', list(held.items())] -/
theorem b_thing (hr : Room 14 (lawX P w K mg base f cdv A outer s H0 E).A) (hG : (lawX P w K mg base f cdv A outer s H0 E).A.guards = some []) (mr : mg "repr" = none) (ml : mg "list" = none) (D1 : HasG P w K mg base "_law_told" 6 ["term", "held"] (spTold3 K C)) :
    Stm (lawX P w K mg base f cdv A outer s H0 E) (bIn.getD 8 noStmt) (F3 C a) (F3 C a) := by
  obtain ⟨f1, fd1, m1, k1, b1, G1⟩ := D1
  have r5 : Room 5 (lawX P w K mg base f cdv A outer s H0 E).A := hr.mono (by decide)
  have r6 : Room 6 (lawX P w K mg base f cdv A outer s H0 E).A := hr.mono (by decide)
  have hu : (lawX P w K mg base f cdv A outer s H0 E).A.units + 64 < cLine := by
    have := hr.un
    omega
  refine ⟨_, ps_for PassesOwn.never rfl (pi_list (pe_lst (pa_cons pe_non (pa_cons pe_int (pa_cons (pe_lst pa_nil) (pa_cons (pe_tup (pa_cons pe_str (pa_cons pe_int pa_nil))) (pa_cons pe_str (pa_cons (LiI.pe_listItems rfl (pv 5) rfl ml (by decide +kernel)) pa_nil)))))))) (pg_name (i := 14) scLaw.nd rfl (.inl rfl))
    (pss_one (ps_if (pt_cmpR (op_neD hr.units) (pe_callG (E := E0) G1 hG r6 rfl m1 k1 b1 (pa_cons (pv 8) (pa_cons (pv 14) pa_nil))) (pe_lst (pa_cons pe_str (pa_cons (pe_callB (call_reprX hG hu) (by rfl) mr (by decide +kernel) (pa_cons (pv 14) pa_nil)) pa_nil))) (nomark _)) (pss_one (ps_ret pe_bl)) pss_nil)), fun g D σ H h k => ?_⟩
  obtain ⟨p8, ⟨j6, j9, j10, j11, j12, j13, j14, j15, rfl⟩, s0, ht, h8, ok⟩ := h
  refine ⟨by show 0 ≤ sizeLine; decide, fun l hl => ?_⟩
  have g1 : Same H (upd H l (.lst [])) := same_upd hl _
  have v1 : (upd H l (.lst [])) l = some (.lst []) := upd_same
  generalize upd H l (.lst []) = H1 at g1 v1
  refine ⟨by show 2 ≤ sizeLine; decide, fun tp htp => ?_⟩
  have g2 : Same H1 (upd H1 tp (.tup [.str "a", .int 1])) := same_upd htp _
  have v2 : (upd H1 tp (.tup [.str "a", .int 1])) tp = some (.tup [.str "a", .int 1]) := upd_same
  generalize upd H1 tp (.tup [.str "a", .int 1]) = H2 at g2 v2
  have g12 := g1.trans g2
  refine ⟨_, rfl, g.dh, g.kvs, rfl, g12 _ _ (ok.dict s0), fun H3 pl ts g3 npl nts notin v3 pr => ?_⟩
  have g3 : Same H2 H3 := g3
  refine ⟨by show 6 ≤ sizeLine; decide, fun L hL => ?_⟩
  have g4 : Same H3 (upd H3 L (.lst [.non, .int 5, .ref l, .ref tp, .str "a", .ref pl])) := same_upd hL _
  have v4 : (upd H3 L (.lst [.non, .int 5, .ref l, .ref tp, .str "a", .ref pl])) L = some (.lst [.non, .int 5, .ref l, .ref tp, .str "a", .ref pl]) := upd_same
  generalize upd H3 L (.lst [.non, .int 5, .ref l, .ref tp, .str "a", .ref pl]) = H4 at g4 v4
  have w1 := g4 _ _ (g3 _ _ (g2 _ _ v1))
  have w2 := g4 _ _ (g3 _ _ v2)
  have w3 := g4 _ _ v3
  have pr4 : Paired (PairAt H4) ts (g.cs.map ent) := paired_imp pr fun t q h => g4 _ _ h
  have g14 := (g12.trans g3).trans g4
  have so : SameOff [g.p] H H4 := Same.off g14
  have all : ∀ x ∈ [V.non, .int 5, .ref l, .ref tp, .str "a", .ref pl], ∃ (ty : Value) (r : Str), TyX K H4 x ty ∧ PySem.W.kitOne K ty (.type "dict") = some false ∧ Rep K H4 x r ∧ Plain r := fun x hx => by
    simp only [List.mem_cons, List.not_mem_nil, or_false] at hx
    rcases hx with rfl | rfl | rfl | rfl | rfl | rfl
    · exact ⟨_, _, .base .non, kit_ty (by decide +kernel), .non, plain_by (by decide +kernel)⟩
    · exact ⟨_, _, .base (.int 5), kit_ty (by decide +kernel), .int (by decide +kernel), plain_by (by decide +kernel)⟩
    · exact ⟨_, _, .base (.lst w1), kit_ty (by decide +kernel), .dat (dt := .list []) (.lst (SqL.of w1) .nil) (by decide +kernel) (by decide +kernel) (by decide +kernel) (by decide +kernel), plain_by (by decide +kernel)⟩
    · exact ⟨_, _, .base (.tup w2), kit_ty (by decide +kernel), .dat (dt := .tuple [.str "a", .int 1]) (.tup (SqT.of w2) (.cons (.str _) (.cons (.int _) .nil))) (by decide +kernel) (by decide +kernel) (by decide +kernel) (by decide +kernel), plain_by (by decide +kernel)⟩
    · exact ⟨_, _, .base (.str "a"), kit_ty (by decide +kernel), rep_text (plain_by (by decide +kernel)) (by decide +kernel), repr_plain (plain_by (by decide +kernel))⟩
    · exact ⟨_, _, .base (.lst w3), kit_ty (by decide +kernel), .dat (dt := pairsD g.cs) (.lst (SqL.of w3) (dp_pairs pr4)) (pairs_showable ok.sm) (pairs_noDict _) (Nat.le_trans (pairs_depth _) (by decide)) (pairs_len ok.sm (by have := ok.cl; omega)), pairs_plain ok.sm⟩
  refine ⟨L, rfl, ⟨_, SqL.of v4⟩, for_list (K := K) (a := L) (xs := [.non, .int 5, .ref l, .ref tp, .str "a", .ref pl]) (fun i σ' H' => Same H4 H' ∧ ∃ j6 j9 j10 j11 j12 j13 j14 j15 : Option V, σ' = [some (.ref a), some g.kk, some (.ref g.p), some (.ref g.lw), some (.ref g.lm), some (.ref g.dh), j6, some g.v7, some (.ref p8), j9, j10, j11, j12, j13, j14, j15]) ⟨Same.refl _, _, _, _, _, _, _, _, _, rfl⟩ (fun i σ' H' _ h => SqL.of (h.1 _ _ v4)) ?_ ?_⟩
  · rintro i x σ' H' hx ⟨s3, j6, j9, j10, j11, j12, j13, j14, j15, rfl⟩
    obtain ⟨ty, r, h1, h2, h3, h4⟩ := all x (List.mem_of_getElem? hx)
    refine ⟨_, rfl, _, rfl, p8, g.t, x, rfl, h8 H' (so.trans (Same.off s3)), .inr ⟨ty, r, TyX.same h1 s3, h2, h3.same s3, fun H5 l5 s5 e5 => ?_⟩⟩
    refine ⟨_, rfl, x, r, rfl, h3.same (s3.trans s5), by show 2 ≤ sizeLine; decide, fun l6 hl6 => ?_⟩
    have s6 : Same H5 (upd H5 l6 (.lst [.str "none", .str r])) := same_upd hl6 _
    refine ⟨noneD r, noneD r, noneD_dp (s6 _ _ e5), noneD_dp upd_same, noneD_shaped h4, noneD_shaped h4, _, rfl, ?_⟩
    rw [noneD_self]
    exact iteF ⟨(s3.trans s5).trans s6, _, _, _, _, _, _, _, _, rfl⟩
  · rintro σ' H' ⟨s3, j6, j9, j10, j11, j12, j13, j14, j15, rfl⟩
    have g15 := g14.trans s3
    exact k _ _ ⟨p8, ⟨_, _, _, _, _, _, _, _, rfl⟩, s0.trans ⟨Same.off g15, s0.2.same g15⟩, ht.same g15, h8.off (Same.off g15), ok⟩
def F2 (C a : Addr) (g : GL) (σ : St) (H : Hp) : Prop := ∃ p8 d9 : Addr, (∃ j6 j10 j11 j12 j13 j14 j15 : Option V, σ = [some (.ref a), some g.kk, some (.ref g.p), some (.ref g.lw), some (.ref g.lm), some (.ref g.dh), j6, some g.v7, some (.ref p8), some (.ref d9), j10, j11, j12, j13, j14, j15]) ∧
  PoolOff g.p g.H0 H ∧ TrAt H g.v7 g.t ∧ TermOff C g.p H p8 g.t ∧ H d9 = some (.dK g.kvs) ∧ g.Ok
/-- if _law_told(term, held) != _law_due(tree, held) or held != first -/
theorem b_first (hr : Room 14 (lawX P w K mg base f cdv A outer s H0 E).A) (hG : (lawX P w K mg base f cdv A outer s H0 E).A.guards = some []) (D1 : HasG P w K mg base "_law_told" 6 ["term", "held"] (spTold3 K C)) (D2 : HasG P w K mg base "_law_due" 5 ["tree", "held"] spDue3) :
    Stm (lawX P w K mg base f cdv A outer s H0 E) (bIn.getD 2 noStmt) (F2 C a) (F3 C a) := by
  obtain ⟨f1, fd1, m1, k1, b1, G1⟩ := D1
  obtain ⟨f2, fd2, m2, k2, b2, G2⟩ := D2
  have r5 : Room 5 (lawX P w K mg base f cdv A outer s H0 E).A := hr.mono (by decide)
  have r6 : Room 6 (lawX P w K mg base f cdv A outer s H0 E).A := hr.mono (by decide)
  refine ⟨_, ps_if (PW.pt (pw_or (pt_cmpR (op_neD hr.units) (pe_callG (E := E0) G1 hG r6 rfl m1 k1 b1 (pa_cons (pv 8) (pa_cons (pv 5) pa_nil))) (pe_callG (E := E0) G2 hG r5 rfl m2 k2 b2 (pa_cons (pv 7) (pa_cons (pv 5) pa_nil))) (nomark _))
      (pw_or1 (pt_cmpR (L2.op_ne_dictA hr.units0) (pv 5) (pv 9) (nomark _))))) (pss_one (ps_ret pe_bl)) pss_nil, fun g D σ H h k => ?_⟩
  obtain ⟨p8, d9, ⟨j6, j10, j11, j12, j13, j14, j15, rfl⟩, s0, ht, h8, e9, ok⟩ := h
  have eh := ok.dict s0
  refine ⟨_, rfl, _, rfl, p8, g.t, .ref g.dh, rfl, h8.now, .inl ⟨g.dh, g.kvs, rfl, eh, ok.cells _, fun ws1 H4 l1 o1 s4 h1 => ?_⟩⟩
  refine ⟨_, rfl, _, rfl, g.v7, g.t, g.dh, g.kvs, rfl, ht.same s4, ok.hf, ok.hd, s4 _ _ eh, ok.cells _, fun ws2 H5 l2 o2 s5 h2 => ?_⟩
  have e := o1.same o2
  subst e
  refine ⟨outD g.kvs ws1 g.t, outD g.kvs ws1 g.t, outD_dp (s5 _ _ h1), outD_dp h2, outD_shaped ok.hf o1, outD_shaped ok.hf o1, _, rfl, ?_⟩
  rw [outD_self]
  have s45 := s4.trans s5
  refine iteF ⟨_, rfl, _, rfl, g.dh, d9, g.kvs, g.kvs, rfl, rfl, s45 _ _ eh, s45 _ _ e9, rfl, fun q hq => ⟨val_nodup ok.nd hq, ?_⟩, _, rfl, iteF ?_⟩
  · obtain ⟨x, n, rfl⟩ := ok.si q hq
    rfl
  · exact k _ _ ⟨p8, ⟨_, _, _, _, _, _, _, _, rfl⟩, s0.trans ⟨Same.off s45, s0.2.same s45⟩, ht.same s45, h8.off (Same.off s45), ok⟩
/-- if not _law_moved_right(tree, held, _law_tree_digits(tree)) -/
theorem b_moved (hr : Room 14 (lawX P w K mg base f cdv A outer s H0 E).A) (D1 : Has P w K mg base "_law_moved_right" 14 ["tree", "held", "digits"] spMoved) (D2 : Has P w K mg base "_law_tree_digits" 4 ["tree"] spLDigits) :
    Stm (lawX P w K mg base f cdv A outer s H0 E) (bIn.getD 3 noStmt) (F3 C a) (F3 C a) := by
  obtain ⟨f1, fd1, m1, k1, b1, G1⟩ := D1
  obtain ⟨f2, fd2, m2, k2, b2, G2⟩ := D2
  have r4 : Room 4 (lawX P w K mg base f cdv A outer s H0 E).A := hr.mono (by decide)
  refine ⟨_, ps_if (pt_not (pt_val (pe_call G1 hr rfl m1 k1 b1 .nil pass0 (pa_cons (pv 7) (pa_cons (pv 5) (pa_cons (pe_call G2 r4 rfl m2 k2 b2 .nil pass0 (pa_cons (pv 7) pa_nil)) pa_nil)))))) (pss_one (ps_ret pe_bl)) pss_nil, fun g D σ H h k => ?_⟩
  obtain ⟨p8, ⟨j6, j9, j10, j11, j12, j13, j14, j15, rfl⟩, s0, ht, h8, ok⟩ := h
  have eh := ok.dict s0
  refine ⟨_, rfl, _, rfl, _, rfl, g.v7, g.t, rfl, ht, ok.hd, fun H1 lg ns s1 nl hl pn sn => ?_⟩
  refine ⟨g.v7, g.t, g.dh, lg, g.kvs, ns, rfl, ht.same s1, ok.hf, ok.hd, s1 _ _ eh, ?_, ok.si, fun x hx => ok.there (ok.tw x hx), hl, pn, fun H2 s2 => ?_⟩
  · rw [List.length_map]
    have := ok.cl
    omega
  · have s12 := s1.trans s2
    refine ⟨_, rfl, iteF ?_⟩
    exact k _ _ ⟨p8, ⟨_, _, _, _, _, _, _, _, rfl⟩, s0.trans ⟨Same.off s12, s0.2.same s12⟩, ht.same s12, h8.off (Same.off s12), ok⟩
end
end TS
namespace TS
open PySem L2
abbrev zk : Key × V := (Sum.inr "zzzzzzzz", V.int 5)
section
variable {P : Program} {w : World} {K : PySem.W.Frag} {mg : Str → Option Value} {base : Heap}
theorem PoolOff.same {p : Addr} {H H1 H2 : Hp} (h : PoolOff p H H1) (s : Same H1 H2) : PoolOff p H H2 := h.trans ⟨Same.off s, h.2.same s⟩
theorem tr_off {p : Addr} {H H1 : Hp} {v : V} {t : Tr} (h : TrAt H v t) (hp : PoolAt H p) (s : SameOff [p] H H1) : TrAt H1 v t := h.off s (pool_lists hp)
variable {f C a : Addr} {cdv : Value} {A : Around} {outer : List Env} {s : Shared} {H0 : Hp} {E : XK}
def F1 (a : Addr) (g : GL) (σ : St) (H : Hp) : Prop := (∃ j6 j8 j9 j10 j11 j12 j13 j14 j15 : Option V, σ = [some (.ref a), some g.kk, some (.ref g.p), some (.ref g.lw), some (.ref g.lm), some (.ref g.dh), j6, some g.v7, j8, j9, j10, j11, j12, j13, j14, j15]) ∧
  PoolOff g.p g.H0 H ∧ TrAt H g.v7 g.t ∧ g.Ok
/-- term, first = (Term(_law_tree_text(tree)), dict(list(held.items()))) -/
theorem b_term (hr : Room 14 (lawX P w K mg base f cdv A outer s H0 E).A) (md : mg "dict" = none) (ml : mg "list" = none) (TK : TermK K mg C) (D1 : Has P w K mg base "_law_tree_text" 3 ["tree"] (spText 3)) (DT : HasTerm P w K mg base C) :
    Stm (lawX P w K mg base f cdv A outer s H0 E) (bIn.getD 1 noStmt) (F1 a) (F2 C a) := by
  obtain ⟨f1, fd1, m1, k1, b1, G1⟩ := D1
  obtain ⟨f3, fd3, M3, b3, G3⟩ := DT
  have r13 : Room 13 (lawX P w K mg base f cdv A outer s H0 E).A := hr.mono (by decide)
  have r3 : Room 3 (lawX P w K mg base f cdv A outer s H0 E).A := hr.mono (by decide)
  refine ⟨_, ps_par (i := 8) (j := 9) (by rfl) scLaw.nd rfl rfl (by decide) rfl rfl (pa_cons (pe_make M3 G3 r13 rfl TK.mgC b3 .nil pass0 (pa_cons (pe_call G1 r3 rfl m1 k1 b1 .nil pass0 (pa_cons (pv 7) pa_nil)) pa_nil))
    (pa_cons (pe_callTy (call_dictP rfl) (by rfl) md (by decide +kernel) (pa_cons (LiI.pe_listItems rfl (pv 5) rfl ml (by decide +kernel)) pa_nil)) pa_nil)) (by rfl), fun g D σ H h k => ?_⟩
  obtain ⟨⟨j6, j8, j9, j10, j11, j12, j13, j14, j15, rfl⟩, s0, ht, ok⟩ := h
  have eh := ok.dict s0
  refine ⟨_, rfl, g.v7, g.t, rfl, ht, ok.hf.small, ok.hd, Nat.le_trans (text315 ok.hf ok.hd) (by decide), fun H1 s1 => ?_⟩
  intro p8 dx na nd ne
  refine make_at (.inl rfl) ok.hf ok.hd na nd ne fun H2 s2 hT => ⟨rfl, ?_⟩
  have s12 := s1.trans s2
  have hO : TermOff C g.p H2 p8 g.t := hT [g.p] (pool_lists (s0.2.same s1))
  refine ⟨_, rfl, g.dh, g.kvs, rfl, s12 _ _ eh, fun H3 pl ts g3 npl nts notin v3 pr => ?_⟩
  have g3 : Same H2 H3 := g3
  refine ⟨pl, ts, g.kvs, rfl, SqL.of v3, paired_imp pr (fun t q h => SqT.of h), fun d9 hd9 => ?_⟩
  have g4 : Same H3 (upd H3 d9 (.dK (mergeK [] g.kvs))) := same_upd hd9 _
  have v4 : (upd H3 d9 (.dK (mergeK [] g.kvs))) d9 = some (.dK (mergeK [] g.kvs)) := upd_same
  rw [merge_self g.kvs [] (by simpa using ok.nd)] at g4 v4
  rw [merge_self g.kvs [] (by simpa using ok.nd)]
  generalize upd H3 d9 (.dK ([] ++ g.kvs)) = H4 at g4 v4
  refine ⟨_, _, rfl, ?_⟩
  have s24 := g3.trans g4
  have s14 := s12.trans s24
  exact k _ _ ⟨p8, d9, ⟨_, _, _, _, _, _, _, rfl⟩, s0.same s14, ht.same s14, hO.off (Same.off s24), v4, ok⟩
def F4 (C a : Addr) (g : GL) (σ : St) (H : Hp) : Prop := ∃ (p8 d10 : Addr) (k10 : List (Key × V)), (∃ j6 j9 j11 j12 j13 j14 j15 : Option V, σ = [some (.ref a), some g.kk, some (.ref g.p), some (.ref g.lw), some (.ref g.lm), some (.ref g.dh), j6, some g.v7, some (.ref p8), j9, some (.ref d10), j11, j12, j13, j14, j15]) ∧
  PoolOff g.p g.H0 H ∧ TrAt H g.v7 g.t ∧ TermOff C g.p H p8 g.t ∧ DictC H d10 k10 ∧ g.Ok
def F5 (C a : Addr) (g : GL) (σ : St) (H : Hp) : Prop := ∃ (p8 d10 d11 : Addr) (k10 k11 : List (Key × V)), (∃ j6 j9 j12 j13 j14 j15 : Option V, σ = [some (.ref a), some g.kk, some (.ref g.p), some (.ref g.lw), some (.ref g.lm), some (.ref g.dh), j6, some g.v7, some (.ref p8), j9, some (.ref d10), some (.ref d11), j12, j13, j14, j15]) ∧
  PoolOff g.p g.H0 H ∧ TrAt H g.v7 g.t ∧ TermOff C g.p H p8 g.t ∧ DictC H d10 k10 ∧ DictC H d11 k11 ∧ g.Ok
theorem GL.Ok.words {g : GL} (ok : g.Ok) {H : Hp} (s : PoolOff g.p g.H0 H) : H g.lw = some (.lst (g.ws.map V.str)) := s.1 _ _ ok.hw (by simpa using ok.nw)
/-- less = dict([(word, held[word]) for word in _law_part(pool, words)]) -/
theorem b_less (hr : Room 14 (lawX P w K mg base f cdv A outer s H0 E).A) (md : mg "dict" = none) (D1 : Has P w K mg base "_law_part" 2 ["pool", "things"] spPart) :
    Stm (lawX P w K mg base f cdv A outer s H0 E) (bIn.getD 4 noStmt) (F3 C a) (F4 C a) := by
  obtain ⟨f1, fd1, m1, k1, b1, G1⟩ := D1
  have hu := hu_of hr
  have r2 : Room 2 (lawX P w K mg base f cdv A outer s H0 E).A := hr.mono (by decide)
  refine ⟨_, ps_set (i := 10) scLaw.nd rfl (.inl rfl) (pe_callTy (call_dictP rfl) (by rfl) md (by decide +kernel) (pa_cons
    (pe_lc (own := [("word", 15)]) (g := gName 15) (tt := tYes) (by rfl) scLaw.nd (pi_list (pe_call G1 r2 rfl m1 k1 b1 .nil pass0 (pa_cons (pv 2) (pa_cons (pv 3) pa_nil)))) (blkOk_by (own := [("word", 15)]) (N := nmLaw) (sc := defScope sLaw) (by decide +kernel)) (fun _ _ _ _ _ => pg_name (i := 15) scLaw.nd rfl (Or.inl rfl)) (fun _ _ _ _ _ => pts_nil)
      (fun _ _ _ _ _ => pe_tup (pa_cons (pv 15) (pa_cons (pe_dget hu (pv 5) (pv 15) (fun _ _ => rfl)) pa_nil)))) pa_nil)), fun g D σ H h k => ?_⟩
  obtain ⟨p8, ⟨j6, j9, j10, j11, j12, j13, j14, j15, rfl⟩, s0, ht, h8, ok⟩ := h
  refine ⟨_, rfl, _, rfl, g.p, g.lw, g.ws, rfl, s0.2, ok.words s0, ok.nw, by have := ok.w1; omega, fun H1 r ys s1 nr hr1 sub yl => ?_⟩
  have nrp : r ≠ g.p := s0.2.ne nr
  have s01 := s0.trans s1
  refine ⟨r, rfl, ⟨_, SqL.of hr1⟩, fun Dl hD => lc_pairs (K := K) (φ := fun v => ∃ n : Int, v = .int n) s1.2 hr1 nrp (by have := ok.w1; omega) hD (fun _ => rfl) (fun x H2 G hx s2 hG => ?_) (fun H2 ps more s2 hD2 pr kk hφ => ?_)⟩
  · obtain ⟨u, hu'⟩ := ok.there (sub x hx)
    exact ⟨_, rfl, _, rfl, _, rfl, g.dh, _, rfl, dget_s (.inl (ok.dict (s01.trans s2))) (StrInts.at ok.si hu'), by show 2 ≤ sizeLine; decide, fun tp htp => hG _ H2 tp ⟨SameOff.refl _ _, s2.2⟩ ⟨_, rfl⟩ htp⟩
  · refine ⟨Dl, ps, more, rfl, SqL.of hD2, paired_imp pr (fun t q h => SqT.of h), fun d10 hd10 => ?_⟩
    have g3 : Same H2 (upd H2 d10 (.dK (mergeK [] more))) := same_upd hd10 _
    have v3 : (upd H2 d10 (.dK (mergeK [] more))) d10 = some (.dK (mergeK [] more)) := upd_same
    generalize upd H2 d10 (.dK (mergeK [] more)) = H3 at g3 v3
    have s13 : PoolOff g.p H H3 := (s1.trans s2).same g3
    refine k _ _ ⟨p8, d10, _, ⟨_, _, _, _, _, _, _, rfl⟩, s0.trans s13, tr_off ht s0.2 s13.1, h8.off s13.1, ⟨v3, ?_⟩, ok⟩
    refine merge_all more [] (by simp) fun q hq => ?_
    obtain ⟨n, e⟩ := hφ q hq
    rw [e]
    exact .int n
/-- more = dict(list(held.items()) + [('zzzzzzzz', 5)]) -/
theorem b_more (md : mg "dict" = none) (ml : mg "list" = none) : Stm (lawX P w K mg base f cdv A outer s H0 E) (bIn.getD 6 noStmt) (F5 C a) (F6 C a) := by
  refine ⟨_, ps_set (i := 12) scLaw.nd rfl (.inl rfl) (pe_callTy (call_dictP rfl) (by rfl) md (by decide +kernel) (pa_cons (pe_op op_cat (LiI.pe_listItems rfl (pv 5) rfl ml (by decide +kernel)) (pe_lst (pa_cons (pe_tup (pa_cons pe_str (pa_cons pe_int pa_nil))) pa_nil))) pa_nil)), fun g D σ H h k => ?_⟩
  obtain ⟨p8, d10, d11, k10, k11, ⟨j6, j9, j12, j13, j14, j15, rfl⟩, s0, ht, h8, c10, c11, ok⟩ := h
  refine ⟨_, rfl, g.dh, g.kvs, rfl, ok.dict s0, fun H1 pl ts g1 npl nts notin v1 pr => ?_⟩
  have g1 : Same H H1 := g1
  refine ⟨by show 2 ≤ sizeLine; decide, fun tp htp => ?_⟩
  have g2 : Same H1 (upd H1 tp (.tup [.str "zzzzzzzz", .int 5])) := same_upd htp _
  have v2 : (upd H1 tp (.tup [.str "zzzzzzzz", .int 5])) tp = some (.tup [.str "zzzzzzzz", .int 5]) := upd_same
  generalize upd H1 tp (.tup [.str "zzzzzzzz", .int 5]) = H2 at g2 v2
  refine ⟨by show 1 ≤ sizeLine; decide, fun l1 hl1 => ?_⟩
  have g3 : Same H2 (upd H2 l1 (.lst [.ref tp])) := same_upd hl1 _
  have v3 : (upd H2 l1 (.lst [.ref tp])) l1 = some (.lst [.ref tp]) := upd_same
  generalize upd H2 l1 (.lst [.ref tp]) = H3 at g3 v3
  have lt : ts.length ≤ 26 := by
    have := (paired_at pr).1
    rw [List.length_map] at this
    have := ok.cl
    omega
  refine ⟨pl, l1, _, _, rfl, rfl, g3 _ _ (g2 _ _ v1), v3, ?_, fun L hL => ?_⟩
  · simp only [List.length_map, List.length_cons, List.length_nil]
    exact small1000 (by omega)
  have g4 : Same H3 (upd H3 L (.lst (ts.map V.ref ++ [.ref tp]))) := same_upd hL _
  have v4 : (upd H3 L (.lst (ts.map V.ref ++ [.ref tp]))) L = some (.lst (ts.map V.ref ++ [.ref tp])) := upd_same
  generalize upd H3 L (.lst (ts.map V.ref ++ [.ref tp])) = H4 at g4 v4
  have g24 := (g2.trans g3).trans g4
  have pr4 : Paired (PairAt H4) (ts ++ [tp]) (g.kvs ++ [zk]) := Paired.snoc (F := PairAt H4) (a := tp) (b := zk) (paired_imp pr fun t q h => g24 _ _ h) (show H4 tp = some (.tup [kV (Sum.inr "zzzzzzzz"), V.int 5]) from g4 _ _ (g3 _ _ v2))
  refine ⟨L, ts ++ [tp], g.kvs ++ [zk], rfl, SqL.of (by rw [v4, List.map_append]; rfl), paired_imp pr4 (fun t q h => SqT.of h), fun d12 hd12 => ?_⟩
  have cm : ∀ (G : Hp), ∀ q ∈ mergeK [] (g.kvs ++ [zk]), CellV G q.2 := fun G => merge_all _ [] (by simp) fun q hq => by
    rcases List.mem_append.mp hq with hq | hq
    · exact ok.cells G q hq
    · simp at hq
      subst hq
      exact .int 5
  generalize mergeK [] (g.kvs ++ [zk]) = kM at cm
  have g5 : Same H4 (upd H4 d12 (.dK kM)) := same_upd hd12 _
  have v5 : (upd H4 d12 (.dK kM)) d12 = some (.dK kM) := upd_same
  generalize upd H4 d12 (.dK kM) = H5 at g5 v5
  have s15 := (g1.trans g24).trans g5
  exact k _ _ ⟨p8, d10, d11, d12, k10, k11, kM, ⟨_, _, _, _, _, rfl⟩, s0.same s15, ht.same s15, h8.off (Same.off s15), c10.same s15, c11.same s15, ⟨v5, cm _⟩, ok⟩
end
end TS
namespace TS
open PySem L2
section
variable {P : Program} {w : World} {K : PySem.W.Frag} {mg : Str → Option Value} {base : Heap}
variable {f C a : Addr} {cdv : Value} {A : Around} {outer : List Env} {s : Shared} {H0 : Hp} {E : XK}
/-- odd = dict(list(held.items()) + [(_law_one(pool, words), _law_one(pool, [None, True, '1', (1,)]))]) -/
theorem b_odd (hr : Room 14 (lawX P w K mg base f cdv A outer s H0 E).A) (md : mg "dict" = none) (ml : mg "list" = none) (D1 : Has P w K mg base "_law_one" 2 ["pool", "things"] (spOne K)) : Stm (lawX P w K mg base f cdv A outer s H0 E) (bIn.getD 5 noStmt) (F4 C a) (F5 C a) := by
  obtain ⟨f1, fd1, m1, k1, b1, G1⟩ := D1
  have r2 : Room 2 (lawX P w K mg base f cdv A outer s H0 E).A := hr.mono (by decide)
  refine ⟨_, ps_set (i := 11) scLaw.nd rfl (.inl rfl) (pe_callTy (call_dictP rfl) (by rfl) md (by decide +kernel) (pa_cons (pe_op op_cat (LiI.pe_listItems rfl (pv 5) rfl ml (by decide +kernel))
    (pe_lst (pa_cons (pe_tup (pa_cons (pe_call G1 r2 rfl m1 k1 b1 .nil pass0 (pa_cons (pv 2) (pa_cons (pv 3) pa_nil)))
      (pa_cons (pe_call G1 r2 rfl m1 k1 b1 .nil pass0 (pa_cons (pv 2) (pa_cons (pe_lst (pa_cons pe_non (pa_cons pe_bl (pa_cons pe_str (pa_cons (pe_tup (pa_cons pe_int pa_nil)) pa_nil))))) pa_nil))) pa_nil))) pa_nil))) pa_nil)), fun g D σ H h k => ?_⟩
  obtain ⟨p8, d10, k10, ⟨j6, j9, j11, j12, j13, j14, j15, rfl⟩, s0, ht, h8, c10, ok⟩ := h
  refine ⟨_, rfl, g.dh, g.kvs, rfl, ok.dict s0, fun H1 pl ts g1 npl nts notin v1 pr => ?_⟩
  have g1 : Same H H1 := g1
  have P1 : PoolOff g.p g.H0 H1 := s0.same g1
  have nplp : pl ≠ g.p := s0.2.ne npl
  refine ⟨_, rfl, _, rfl, g.p, .ref g.lw, rfl, P1.2, .inl ⟨g.lw, _, rfl, ok.nw, SqL.of (ok.words P1), by rw [List.length_map]; exact ok.w0, by rw [List.length_map]; have := ok.w1; omega, fun H2 i v hv s2 => ?_⟩⟩
  obtain ⟨x, rfl⟩ : ∃ x : Str, v = .str x := by
    obtain ⟨x, _, e⟩ := List.mem_map.mp (List.mem_of_getElem? hv)
    exact ⟨x, e.symm⟩
  refine ⟨_, rfl, by show 1 ≤ sizeLine; decide, fun t1 ht1 => ?_⟩
  have g3 : Same H2 (upd H2 t1 (.tup [.int 1])) := same_upd ht1 _
  have v3 : (upd H2 t1 (.tup [.int 1])) t1 = some (.tup [.int 1]) := upd_same
  generalize upd H2 t1 (.tup [.int 1]) = H3 at g3 v3
  refine ⟨by show 4 ≤ sizeLine; decide, fun l4 hl4 => ?_⟩
  have g4 : Same H3 (upd H3 l4 (.lst [.non, .bl true, .str "1", .ref t1])) := same_upd hl4 _
  have v4 : (upd H3 l4 (.lst [.non, .bl true, .str "1", .ref t1])) l4 = some (.lst [.non, .bl true, .str "1", .ref t1]) := upd_same
  generalize upd H3 l4 (.lst [.non, .bl true, .str "1", .ref t1]) = H4 at g4 v4
  have P4 : PoolOff g.p H1 H4 := s2.same (g3.trans g4)
  have nl4 : l4 ≠ g.p := (s2.same g3).2.ne hl4
  refine ⟨g.p, .ref l4, rfl, P4.2, .inl ⟨l4, _, rfl, nl4, SqL.of v4, by show 0 < 4; decide, by show 4 ≤ 1000; decide, fun H5 j v2 hv2 s5 => ?_⟩⟩
  have P5 : PoolOff g.p H1 H5 := P4.trans s5
  have t5 : H5 t1 = some (.tup [.int 1]) := s5.1 _ _ (g4 _ _ v3) (by simpa using pool_tup P4.2 (g4 _ _ v3))
  have cv2 : ∀ G, Same H5 G → CellV G v2 := fun G sG => by
    have m := List.mem_of_getElem? hv2
    simp only [List.mem_cons, List.not_mem_nil, or_false] at m
    rcases m with rfl | rfl | rfl | rfl
    · exact .non
    · exact .bl true
    · exact .str "1"
    · exact .tup (sG _ _ t5)
  refine ⟨by show 2 ≤ sizeLine; decide, fun tp htp => ?_⟩
  have g6 : Same H5 (upd H5 tp (.tup [.str x, v2])) := same_upd htp _
  have v6 : (upd H5 tp (.tup [.str x, v2])) tp = some (.tup [.str x, v2]) := upd_same
  generalize upd H5 tp (.tup [.str x, v2]) = H6 at g6 v6
  refine ⟨by show 1 ≤ sizeLine; decide, fun l1 hl1 => ?_⟩
  have g7 : Same H6 (upd H6 l1 (.lst [.ref tp])) := same_upd hl1 _
  have v7 : (upd H6 l1 (.lst [.ref tp])) l1 = some (.lst [.ref tp]) := upd_same
  generalize upd H6 l1 (.lst [.ref tp]) = H7 at g7 v7
  have lt : ts.length ≤ 26 := by
    have := (paired_at pr).1
    rw [List.length_map] at this
    have := ok.cl
    omega
  have P7 : PoolOff g.p H1 H7 := P5.same (g6.trans g7)
  refine ⟨pl, l1, _, _, rfl, rfl, P7.1 _ _ v1 (by simpa using nplp), v7, ?_, fun L hL => ?_⟩
  · simp only [List.length_map, List.length_cons, List.length_nil]
    exact small1000 (by omega)
  have g8 : Same H7 (upd H7 L (.lst (ts.map V.ref ++ [.ref tp]))) := same_upd hL _
  have v8 : (upd H7 L (.lst (ts.map V.ref ++ [.ref tp]))) L = some (.lst (ts.map V.ref ++ [.ref tp])) := upd_same
  generalize upd H7 L (.lst (ts.map V.ref ++ [.ref tp])) = H8 at g8 v8
  have P8 : PoolOff g.p H1 H8 := P7.same g8
  have pr8 : Paired (PairAt H8) (ts ++ [tp]) (g.kvs ++ [(Sum.inr x, v2)]) := Paired.snoc (F := PairAt H8) (a := tp) (b := (Sum.inr x, v2)) (paired_imp pr fun t q h => P8.1 _ _ h (by simpa using pool_tup P1.2 h)) (show H8 tp = some (.tup [kV (Sum.inr x), v2]) from g8 _ _ (g7 _ _ v6))
  refine ⟨L, ts ++ [tp], g.kvs ++ [(Sum.inr x, v2)], rfl, SqL.of (by rw [v8, List.map_append]; rfl), paired_imp pr8 (fun t q h => SqT.of h), fun d11 hd11 => ?_⟩
  have g58 := (g6.trans g7).trans g8
  have cm : ∀ G, Same H8 G → ∀ q ∈ mergeK [] (g.kvs ++ [(Sum.inr x, v2)]), CellV G q.2 := fun G sG => merge_all _ [] (by simp) fun q hq => by
    rcases List.mem_append.mp hq with hq | hq
    · exact ok.cells G q hq
    · simp at hq
      subst hq
      exact cv2 G (g58.trans sG)
  generalize mergeK [] (g.kvs ++ [(Sum.inr x, v2)]) = kM at cm
  have g9 : Same H8 (upd H8 d11 (.dK kM)) := same_upd hd11 _
  have v9 : (upd H8 d11 (.dK kM)) d11 = some (.dK kM) := upd_same
  generalize upd H8 d11 (.dK kM) = H9 at g9 v9
  have P9 : PoolOff g.p H H9 := PoolOff.trans (H1 := H1) ⟨Same.off g1, P1.2⟩ (P8.same g9)
  exact k _ _ ⟨p8, d10, d11, k10, kM, ⟨_, _, _, _, _, _, rfl⟩, s0.trans P9, tr_off ht s0.2 P9.1, h8.off P9.1, c10.off s0.2 P9.1, ⟨v9, cm _ g9⟩, ok⟩
structure LawD (P : Program) (w : World) (K : PySem.W.Frag) (mg : Str → Option Value) (base : Heap) (C : Addr) : Prop where
  T : BltT mg
  U : BltU mg
  mr : mg "repr" = none
  md : mg "dict" = none
  TK : TermK K mg C
  DT : HasTerm P w K mg base C
  told : HasG P w K mg base "_law_told" 6 ["term", "held"] (spTold3 K C)
  due : HasG P w K mg base "_law_due" 5 ["tree", "held"] spDue3
  moved : Has P w K mg base "_law_moved_right" 14 ["tree", "held", "digits"] spMoved
  digits : Has P w K mg base "_law_tree_digits" 4 ["tree"] spLDigits
  part : Has P w K mg base "_law_part" 2 ["pool", "things"] spPart
  one : Has P w K mg base "_law_one" 2 ["pool", "things"] (spOne K)
  lt : Has P w K mg base "_law_tree_text" 3 ["tree"] (spText 3)
  pool : Has P w K mg base "_law_pool" 1 ["script", "k"] (spPool K)
  take : Has P w K mg base "_law_take" 1 ["pool", "bound"] spTake
  words : Has P w K mg base "_law_words" 3 ["pool", "bound"] spWords
  tree : Has P w K mg base "_law_tree" 5 ["pool", "words", "digits", "deep"] (spLTreeW 3)
theorem rest_turn (hr : Room 14 (lawX P w K mg base f cdv A outer s H0 E).A) (hG : (lawX P w K mg base f cdv A outer s H0 E).A.guards = some []) (L : LawD P w K mg base C) :
    Stms (lawX P w K mg base f cdv A outer s H0 E) (bIn.drop 1) (F1 a) (F3 C a) :=
  Stms.cons (b_term hr L.md L.U.list L.TK L.lt L.DT) (Stms.cons (b_first hr hG L.told L.due) (Stms.cons (b_moved hr L.moved L.digits) (Stms.cons (b_less hr L.md L.part) (Stms.cons (b_odd hr L.md L.U.list L.one) (Stms.cons (b_more L.md L.U.list) (Stms.cons (b_some hr hG L.told L.due) (Stms.one (b_thing hr hG L.mr L.U.list L.told))))))))
end
end TS
namespace TS
open PySem L2
/-- entries of words and small numbers -/
def EntC (kvs : List (Key × V)) : Prop := ∀ q ∈ kvs, ∃ c, SmallC c ∧ q = ent c
theorem put_ent {kvs : List (Key × V)} (h : EntC kvs) {c : Str × Int} (hc : SmallC c) : EntC (putK kvs (Sum.inr c.1) (.int c.2)) := by
  unfold putK
  intro q hq
  split at hq
  · obtain ⟨p, hp, rfl⟩ := List.mem_map.mp hq
    obtain ⟨e, he, rfl⟩ := h p hp
    split
    · exact ⟨(e.1, c.2), ⟨he.1, hc.2⟩, rfl⟩
    · exact ⟨e, he, rfl⟩
  · rcases List.mem_append.mp hq with hq | hq
    · exact h q hq
    · simp at hq
      subst hq
      exact ⟨c, hc, rfl⟩
theorem merge_ent : ∀ (more acc : List (Key × V)), EntC acc → EntC more → EntC (mergeK acc more)
  | [], _, h, _ => h
  | p :: r, acc, h, hm => by
    obtain ⟨c, hc, rfl⟩ := hm p (by simp)
    exact merge_ent r _ (put_ent h hc) fun q hq => hm q (by simp [hq])
theorem ent_list : ∀ {kvs : List (Key × V)}, EntC kvs → ∃ cs : List (Str × Int), kvs = cs.map ent ∧ ∀ c ∈ cs, SmallC c
  | [], _ => ⟨[], rfl, by simp⟩
  | q :: r, h => by
    obtain ⟨c, hc, rfl⟩ := h q (by simp)
    obtain ⟨cs, e, hs⟩ := ent_list (kvs := r) fun p hp => h p (by simp [hp])
    refine ⟨c :: cs, by rw [e]; rfl, fun d hd => ?_⟩
    rcases List.mem_cons.mp hd with rfl | hd
    · exact hc
    · exact hs d hd
section
variable {P : Program} {w : World} {K : PySem.W.Frag} {mg : Str → Option Value} {base : Heap}
variable {f C a : Addr} {cdv : Value} {A : Around} {outer : List Env} {s : Shared} {H0 : Hp} {E : XK}
def F0 (a : Addr) (g : GL) (σ : St) (H : Hp) : Prop := (∃ j6 j7 j8 j9 j10 j11 j12 j13 j14 j15 : Option V, σ = [some (.ref a), some g.kk, some (.ref g.p), some (.ref g.lw), some (.ref g.lm), some (.ref g.dh), j6, j7, j8, j9, j10, j11, j12, j13, j14, j15]) ∧ PoolOff g.p g.H0 H ∧ g.Ok
/-- for turn in range(6) -/
theorem b_turns (hr : Room 14 (lawX P w K mg base f cdv A outer s H0 E).A) (hG : (lawX P w K mg base f cdv A outer s H0 E).A.guards = some []) (L : LawD P w K mg base C) :
    Stm (lawX P w K mg base f cdv A outer s H0 E) (bLaw.getD 4 noStmt) (F0 a) (F0 a) := by
  obtain ⟨tR, pR, rR⟩ := rest_turn (C := C) (a := a) hr hG L
  obtain ⟨f6, fd6, m6, k6, b6, G6⟩ := L.take
  obtain ⟨f8, fd8, m8, k8, b8, G8⟩ := L.tree
  have r1 : Room 1 (lawX P w K mg base f cdv A outer s H0 E).A := hr.mono (by decide)
  have r5 : Room 5 (lawX P w K mg base f cdv A outer s H0 E).A := hr.mono (by decide)
  refine ⟨_, ps_for PassesOwn.never rfl (pi_range1 rfl L.U.range (pa_cons pe_int pa_nil)) (pg_name (i := 6) scLaw.nd rfl (.inl rfl))
    (pss_cons (ps_set (i := 7) scLaw.nd rfl (.inl rfl) (pe_call G8 r5 rfl m8 k8 b8 .nil pass0 (pa_cons (pv 2) (pa_cons (pv 3) (pa_cons (pe_lst (pa_cons pe_int (pa_cons pe_int (pa_cons pe_int pa_nil)))) (pa_cons (pe_op op_add pe_int (pe_call G6 r1 rfl m6 k6 b6 .nil pass0 (pa_cons (pv 2) (pa_cons pe_int pa_nil)))) pa_nil)))))) pR), fun g D σ H h k => ?_⟩
  refine ⟨6, rfl, by decide, by decide, for_range (lo := 0) (fun i σ' H' => F0 a g σ' H') h ?_ (fun σ' H' h => k _ _ h)⟩
  rintro i σ' H' hi ⟨⟨j6, j7, j8, j9, j10, j11, j12, j13, j14, j15, rfl⟩, s0, ok⟩
  refine ⟨_, rfl, _, rfl, by show 3 ≤ sizeLine; decide, fun lg hlg => ?_⟩
  have g1 : Same H' (upd H' lg (.lst [.int 0, .int 1, .int 9])) := same_upd hlg _
  have v1 : (upd H' lg (.lst [.int 0, .int 1, .int 9])) lg = some (.lst [.int 0, .int 1, .int 9]) := upd_same
  have ngp : lg ≠ g.p := s0.2.ne hlg
  generalize upd H' lg (.lst [.int 0, .int 1, .int 9]) = H1 at g1 v1
  have s1 := s0.same g1
  obtain ⟨xa, ya, ea, xa0, ya0, ya1⟩ := id s1.2
  refine ⟨_, rfl, g.p, xa, ya, 3, rfl, ea, xa0, ya0, ya1, by decide, by decide, fun r x' y' r0 r1' c0 c1 c2 => ?_⟩
  have g2 : PoolOff g.p H1 (upd H1 g.p (.lst [.int x', .int y'])) := pool_upd c0 c1 c2
  generalize upd H1 g.p (.lst [.int x', .int y']) = H2 at g2
  have s2 := s1.trans g2
  refine ⟨_, _, rfl, rfl, g.p, g.lw, lg, g.ws, [0, 1, 9], (1 + r).toNat, ?_, g2.2, ⟨ok.words s2, g2.1 _ _ v1 (by simpa using ngp), ok.nw, ngp, ok.w0, by have := ok.w1; omega, by decide, by decide, ok.wok, by decide⟩, by omega, by omega, fun H3 v t s3 ht hf hd hw => ?_⟩
  · have e : (1 : Int) + r = (((1 + r).toNat : Nat) : Int) := by omega
    exact congrArg (fun z => [V.ref g.p, V.ref g.lw, V.ref lg, V.int z]) e
  have ok' : GL.Ok { g with v7 := v, t := t } := ⟨ok.pl, ok.hw, ok.nw, ok.hh, ok.w0, ok.w1, ok.wok, ok.sm, ok.cl, ok.nd, ok.kin, hf, by show t.deep ≤ 3; omega, hw⟩
  refine rR { g with v7 := v, t := t } _ _ _ ⟨⟨_, _, _, _, _, _, _, _, _, rfl⟩, s2.trans s3, ht, ok'⟩ fun σ2 H4 h4 => ?_
  obtain ⟨p8, ⟨k6, k9, k10, k11, k12, k13, k14, k15, rfl⟩, s4, _⟩ := h4
  exact ⟨⟨_, _, _, _, _, _, _, _, _, _, rfl⟩, s4, ok⟩
theorem ok_law {C f : Addr} {fd : FuncData} (F : Fun K "law" "law" sLaw f fd) (L : LawD P w K mg base C) : FnG P w K mg base 15 f fd ["script"] (spLaw K) := by
  refine okG F scLaw (fun vs H Q E h => ?_) (fun cdv A outer s H0 vs Q E hG hr h => ?_)
  · obtain ⟨a, ns, rfl, _⟩ := h
    rfl
  obtain ⟨a, ns, rfl, hS, hlen, q⟩ := h
  have T := L.T
  have U := L.U
  obtain ⟨tT, pT, rT⟩ := b_turns (C := C) (a := a) (f := f) (cdv := cdv) (A := _) (outer := outer) (s := s) (H0 := H0) (E := E) hr hG L
  obtain ⟨f5, fd5, m5, k5, b5, G5⟩ := L.pool
  obtain ⟨f6, fd6, m6, k6, b6, G6⟩ := L.take
  obtain ⟨f7, fd7, m7, k7, b7, G7⟩ := L.words
  obtain ⟨f8, fd8, m8, k8, b8, G8⟩ := L.one
  have r1 : Room 1 (lawX P w K mg base f cdv A outer s H0 E).A := hr.mono (by decide)
  have r2 : Room 2 (lawX P w K mg base f cdv A outer s H0 E).A := hr.mono (by decide)
  have r3 : Room 3 (lawX P w K mg base f cdv A outer s H0 E).A := hr.mono (by decide)
  refine ⟨_, pss_cons (ps_for PassesOwn.never rfl (pi_range1 (by rfl) U.range (pa_cons (pe_callB (call_max2 rfl) (by rfl) T.max (by decide +kernel) (pa_cons pe_int (pa_cons (pe_callB (call_min2 rfl) (by rfl) U.min (by decide +kernel)
        (pa_cons pe_int (pa_cons (pe_callB call_len_seq (by rfl) T.len PySem.boot_len (pa_cons (pv 0) pa_nil)) pa_nil))) pa_nil))) pa_nil)) (pg_name (i := 1) scLaw.nd rfl (.inl rfl))
      (pss_cons (ps_set (i := 2) scLaw.nd rfl (.inr rfl) (pe_call G5 r1 rfl m5 k5 b5 .nil pass0 (pa_cons (pv 0) (pa_cons (pv 1) pa_nil))))
      (pss_cons (ps_set (i := 3) scLaw.nd rfl (.inl rfl) (pe_call G7 r3 rfl m7 k7 b7 .nil pass0 (pa_cons (pv 2) (pa_cons pe_int pa_nil))))
      (pss_cons (ps_set (i := 4) scLaw.nd rfl (.inr rfl) (pe_lst (pa_cons pe_int (pa_cons pe_int (pa_cons pe_int (pa_cons (pe_un un_neg pe_int) (pa_cons pe_int (pa_cons pe_int (pa_cons (pe_call G6 r1 rfl m6 k6 b6 .nil pass0 (pa_cons (pv 2) (pa_cons (pe_op op_pow pe_int pe_int) pa_nil)))
        (pa_cons (pe_un un_neg (pe_op op_pow pe_int pe_int)) pa_nil))))))))))
      (pss_cons (ps_set (i := 5) scLaw.nd rfl (.inr rfl) (pe_callTy (call_dictP rfl) (by rfl) L.md (by decide +kernel) (pa_cons
        (pe_lc (own := [("word", 15)]) (g := gName 15) (tt := tYes) (by rfl) scLaw.nd (pi_list (pv 3)) (blkOk_by (own := [("word", 15)]) (N := nmLaw) (sc := defScope sLaw) (by decide +kernel)) (fun _ _ _ _ _ => pg_name (i := 15) scLaw.nd rfl (Or.inl rfl)) (fun _ _ _ _ _ => pts_nil)
          (fun _ _ _ _ _ => pe_tup (pa_cons (pv 15) (pa_cons (pe_call G8 r2 rfl m8 k8 b8 .nil pass0 (pa_cons (pv 2) (pa_cons (pv 4) pa_nil))) pa_nil)))) pa_nil)))
      (pss_one pT))))))
    (pss_one (ps_ret pe_bl)), ?_⟩
  have hl : (ns.map V.int).length = ns.length := List.length_map _
  refine ⟨_, rfl, a, _, rfl, .inl hS, _, _, rfl, _, _, rfl, ?_⟩
  have hm : ∀ z : Int, 0 ≤ z → z ≤ 63 → 1 ≤ (if (if z < 10 then z else 10) > 1 then (if z < 10 then z else 10) else 1) ∧ (if (if z < 10 then z else 10) > 1 then (if z < 10 then z else 10) else 1) ≤ 10 := fun z _ _ => by
    split <;> split <;> omega
  have hz := hm ((ns.map V.int).length : Nat) (by omega) (by omega)
  refine ⟨_, rfl, by omega, by omega, for_range (lo := 0) (fun i σ' H' => (∃ e1 e2 e3 e4 e5 e6 e7 e8 e9 e10 e11 e12 e13 e14 e15 : Option V, σ' = [some (.ref a), e1, e2, e3, e4, e5, e6, e7, e8, e9, e10, e11, e12, e13, e14, e15]) ∧ Same H0 H') ⟨⟨_, _, _, _, _, _, _, _, _, _, _, _, _, _, _, rfl⟩, Same.refl _⟩ ?_ ?_⟩
  · rintro i σ' H1 hi ⟨⟨e1, e2, e3, e4, e5, e6, e7, e8, e9, e10, e11, e12, e13, e14, e15, rfl⟩, s01⟩
    refine ⟨_, rfl, _, rfl, a, ns, _, rfl, s01.seq hS, by omega, by omega, fun p x y hp x0 y0 y1 => ?_⟩
    have p2 : PoolAt (upd H1 p (.lst [.int x, .int y])) p := ⟨x, y, upd_same, x0, y0, y1⟩
    have s12 : Same H1 (upd H1 p (.lst [.int x, .int y])) := same_upd hp _
    generalize upd H1 p (.lst [.int x, .int y]) = H2 at p2 s12
    have keep : ∀ {G : Hp}, PoolOff p H2 G → Same H0 G := fun {G} g b o e => g.1 b o (s12 b o (s01 b o e)) (by simpa using ne_of_none (s01 b o e) hp)
    refine ⟨_, rfl, p, 4, rfl, p2, by decide, fun H3 lw ws g3 nlw hlw wl wok => ?_⟩
    have nwp : lw ≠ p := p2.ne nlw
    obtain ⟨xa, ya, ea, xa0, ya0, ya1⟩ := id g3.2
    refine ⟨_, rfl, _, rfl, _, _, rfl, rfl, ⟨by decide, by decide, by decide⟩, p, xa, ya, _, rfl, ea, xa0, ya0, ya1, by decide +kernel, by decide +kernel, fun r x' y' r0 r1' c0 c1 c2 => ?_⟩
    have g4 : PoolOff p H3 (upd H3 p (.lst [.int x', .int y'])) := pool_upd c0 c1 c2
    generalize upd H3 p (.lst [.int x', .int y']) = H4 at g4
    refine ⟨_, _, rfl, rfl, ⟨by decide, by decide, by decide⟩, _, rfl, by show 8 ≤ sizeLine; decide, fun lm hlm => ?_⟩
    have rb : r.natAbs < 2 ^ 64 := by
      have : (10 : Int) ^ Int.toNat 9 = 1000000000 := by decide +kernel
      omega
    obtain ⟨M, hM, M0, M1, Mi⟩ : ∃ M : List V, M = [.int 0, .int 1, .int 7, (fun i : Int => V.int (-i)) 1, .int 9, .int 10, .int r, (fun i : Int => V.int (-i)) (10 ^ Int.toNat 18)] ∧ 0 < M.length ∧ M.length ≤ 1000 ∧ ∀ v ∈ M, ∃ n : Int, v = .int n ∧ n.natAbs < 2 ^ 64 := by
      refine ⟨_, rfl, by show 0 < 8; decide, by show 8 ≤ 1000; decide, fun v hv => ?_⟩
      simp only [List.mem_cons, List.not_mem_nil, or_false] at hv
      rcases hv with rfl | rfl | rfl | rfl | rfl | rfl | rfl | rfl
      · exact ⟨_, rfl, by decide⟩
      · exact ⟨_, rfl, by decide⟩
      · exact ⟨_, rfl, by decide⟩
      · exact ⟨_, rfl, by decide⟩
      · exact ⟨_, rfl, by decide⟩
      · exact ⟨_, rfl, by decide⟩
      · exact ⟨_, rfl, rb⟩
      · exact ⟨_, rfl, by decide +kernel⟩
    rw [← hM]
    have g5 : Same H4 (upd H4 lm (.lst M)) := same_upd hlm _
    have v5 : (upd H4 lm (.lst M)) lm = some (.lst M) := upd_same
    have nlm : lm ≠ p := g4.2.ne hlm
    generalize upd H4 lm (.lst M) = H5 at g5 v5
    have s25 : PoolOff p H2 H5 := (g3.trans g4).same g5
    have hlw5 : H5 lw = some (.lst (ws.map V.str)) := ((g4.same g5).1 _ _ hlw (by simpa using nwp))
    refine ⟨_, rfl, lw, rfl, ⟨_, SqL.of hlw5⟩, fun Dl hD => lc_pairs (K := K) (φ := fun v => ∃ n : Int, v = .int n ∧ n.natAbs < 2 ^ 64) s25.2 hlw5 nwp (by omega) hD (fun _ => rfl) (fun z G R hz' sG hR => ?_) (fun G ps more sG hG' pr kk hφ => ?_)⟩
    · refine ⟨_, rfl, _, rfl, _, rfl, p, .ref lm, rfl, sG.2, .inl ⟨lm, _, rfl, nlm, SqL.of (sG.1 _ _ v5 (by simpa using nlm)), M0, M1, fun G2 j v hv s2 => ?_⟩⟩
      exact ⟨by show 2 ≤ sizeLine; decide, fun tp htp => hR v G2 tp s2 (Mi v (List.mem_of_getElem? hv)) htp⟩
    · refine ⟨Dl, ps, more, rfl, SqL.of hG', paired_imp pr (fun t q h => SqT.of h), fun dh hdh => ?_⟩
      have entM : EntC more := fun q hq => by
        obtain ⟨n, e, hn⟩ := hφ q hq
        have m : q.1 ∈ keysK more := List.mem_map.mpr ⟨q, hq, rfl⟩
        rw [kk] at m
        obtain ⟨z, hz', e2⟩ := List.mem_map.mp m
        exact ⟨(z, n), ⟨(wok z hz').1, hn⟩, Prod.ext e2.symm e⟩
      obtain ⟨cs, ecs, hcs⟩ := ent_list (merge_ent more [] (by intro q hq; simp at hq) entM)
      have g6 : Same G (upd G dh (.dK (mergeK [] more))) := same_upd hdh _
      have v6 : (upd G dh (.dK (mergeK [] more))) dh = some (.dK (mergeK [] more)) := upd_same
      have nd : (keysK (mergeK [] more)).Nodup := merge_nodup more [] (by simp)
      have ml : (mergeK [] more).length ≤ 4 := by
        have h1 := length_mergeK more []
        have h2 : more.length = ws.length := by
          have := congrArg List.length kk
          simpa [keysK] using this
        simp only [List.length_nil] at h1
        omega
      have kin : ∀ z ∈ ws, Sum.inr z ∈ keysK (mergeK [] more) := fun z hz' => keys_merge more [] _ (.inr (by rw [kk]; exact List.mem_map.mpr ⟨z, hz', rfl⟩))
      generalize upd G dh (.dK (mergeK [] more)) = H6 at g6 v6
      rw [ecs] at v6 nd ml kin
      rw [List.length_map] at ml
      have s56 : PoolOff p H5 H6 := sG.same g6
      have s26 := s25.trans s56
      refine rT ⟨.int (0 + (i : Int)), p, lw, lm, dh, ws, cs, .int 0, .num 0, H6⟩ _ _ _ ⟨⟨_, _, _, _, _, _, _, _, _, _, rfl⟩, ⟨SameOff.refl _ _, s26.2⟩, ⟨s26.2, s56.1 _ _ hlw5 (by simpa using nwp), nwp, v6, by show 0 < ws.length; omega, by show ws.length ≤ 26; omega, fun z hz' => (wok z hz').1, hcs, by show cs.length ≤ 26; omega, nd, kin, ⟨by decide, by decide⟩, by show 1 ≤ 3; decide, by simp [Tr.words]⟩⟩ fun σ2 H7 h7 => ?_
      obtain ⟨⟨k6', k7', k8', k9', k10', k11', k12', k13', k14', k15', rfl⟩, s7, _⟩ := h7
      exact ⟨⟨_, _, _, _, _, _, _, _, _, _, _, _, _, _, _, rfl⟩, keep (s26.trans s7)⟩
  · rintro σ' H1 ⟨⟨e1, e2, e3, e4, e5, e6, e7, e8, e9, e10, e11, e12, e13, e14, e15, rfl⟩, s01⟩
    exact q H1
end
end TS
namespace TS
open PySem PySem.Spec PyProof.Rows PySem.W PySem.Calls L2
/-- the built-in base of an own error -/
structure BaseF (B newId initId : String) (bmB : List Value) : Prop where
  NF : ∃ (Bn iN : String) (bmN : List Value), ExcBaseFacts Bn newId iN bmN ∧ bmB.contains (.type Bn) = true
  noA : bmB.contains (.type "AttributeError") = false
  noN : bmB.contains (.type "NameError") = false
  IF : IniF B initId
  pass : ∀ self : Value, refuseLoop self "__setattr__" bmB = pure ()
  obj : bmB.contains (.type "object") = true
abbrev valMro : List Value := [.type "ValueError", .type "Exception", .type "BaseException", .type "object"]
abbrev ovfMro : List Value := [.type "OverflowError", .type "ArithmeticError", .type "Exception", .type "BaseException", .type "object"]
abbrev runMro : List Value := [.type "RuntimeError", .type "Exception", .type "BaseException", .type "object"]
theorem valBase : BaseF "ValueError" "ValueError.__new__" "ValueError.__init__" valMro := ⟨⟨_, _, _, F.excBase_ValueError, by decide +kernel⟩, by decide +kernel, by decide +kernel, .of F.excBase_ValueError.toExcCallFacts kxs_ValueError, F.store_ValueError.passes, by decide +kernel⟩
theorem ovfBase : BaseF "OverflowError" "OverflowError.__new__" "OverflowError.__init__" ovfMro := ⟨⟨_, _, _, F.excBase_OverflowError, by decide +kernel⟩, by decide +kernel, by decide +kernel, .of F.excBase_OverflowError.toExcCallFacts kxs_OverflowError, fun self => by kernel_rfl, by decide +kernel⟩
theorem runBase : BaseF "RuntimeError" "RuntimeError.__new__" "RuntimeError.__init__" runMro := ⟨⟨_, _, _, F.excBase_RuntimeError, by decide +kernel⟩, by decide +kernel, by decide +kernel, .of F.excBase_RuntimeError.toExcCallFacts kxs_RuntimeError, fun self => by kernel_rfl, by decide +kernel⟩
/-- the names in such an __init__ -/
abbrev iniNames (arg : Str) : List (Str × NameKind) := [("self", .local), (arg, .local), ("__class__", .free), ("super", .globalImplicit)]
abbrev iniArgs (arg : Str) (q1 q2 : Pos) : Arguments := { posonlyargs := [], args := [{ arg := "self", annotation := none, pos := q1 }, { arg := arg, annotation := none, pos := q2 }], vararg := none, kwonlyargs := [], kw_defaults := [], kwarg := none, defaults := [] }
abbrev iniBody (arg msg : Str) (kk : Nat) (p0 p1 p2 p3 p4 p5 p6 p7 p8 p9 : Pos) : List Stmt := [.Expr (supX msg kk p0 p1 p2 p3 p4) p5, .Assign [.Attribute (.Name "self" p6) arg p7] (.Name arg p8) p9]
/-- an attribute's name that is none of the others -/
def argOk (arg : Str) : Bool := decide (arg ≠ "self") && decide (arg ≠ "super") && decide (arg ≠ "__class__") && !(arg == ("__debug__" : Str))
theorem ini_names {arg : Str} (h : argOk arg = true) : (iniNames arg).lookup ("super" : Str) = some .globalImplicit ∧ (iniNames arg).lookup ("__class__" : Str) = some .free ∧ (iniNames arg).lookup ("self" : Str) = some .local ∧ (iniNames arg).lookup arg = some .local ∧ (∀ x ∈ iniNames arg, x.2 ≠ .cell) ∧ arg ≠ "self" ∧ (arg == ("__debug__" : Str)) = false := by
  unfold argOk at h
  simp only [Bool.and_eq_true, decide_eq_true_eq, Bool.not_eq_true'] at h
  obtain ⟨⟨⟨h1, h2⟩, h3⟩, h4⟩ := h
  have n1 : (("super" : Str) == arg) = false := by simpa using fun z : ("super" : Str) = arg => h2 z.symm
  have n2 : (("__class__" : Str) == arg) = false := by simpa using fun z : ("__class__" : Str) = arg => h3 z.symm
  have n3 : (arg == ("self" : Str)) = false := by simpa using h1
  have m1 : (("super" : Str) == "self") = false := by decide +kernel
  have m2 : (("super" : Str) == "__class__") = false := by decide +kernel
  have m3 : (("__class__" : Str) == "self") = false := by decide +kernel
  refine ⟨?_, ?_, ?_, ?_, ?_, h1, h4⟩
  · simp [List.lookup, n1, m1, m2]
  · simp [List.lookup, n2, m3]
  · simp [List.lookup]
  · simp [List.lookup, n3]
  · intro x hx
    simp only [List.mem_cons, List.not_mem_nil, or_false] at hx
    rcases hx with rfl | rfl | rfl | rfl <;> simp
theorem errC_mk {Goal : Prop} {P : Program} {w : World} {K : Frag} {h : Heap} {mg : Str → Option Value} {x arg qual msg file : Str} {C fI cc cda : Addr} {B newId initId : String} {bmB : List Value}
    {nm qn : Str} {N : Addr} {bs bm sub : List Value} {sn : List Str} {ab : Bool} {col : Option Bool} {dd : Option Addr} {k0 k1 k2 k3 k5 : Option Value}
    {q1 q2 p0 p1 p2 p3 p4 p5 p6 p7 p8 p9 : Pos} {kk : Nat} {doc pm ct oc : Value} {an od : Option Addr} {osl : Array (Option Value)} {ccl cl : Value} {cdd cld : Option Addr} {cvs : Array Value} {ccs csl : Array (Option Value)} {tf : Tok}
    (X : K.In h) (G : h.Ns mainGlobals mg) (FB : BaseF B newId initId bmB) (ao : argOk arg = true) (hfile : ((P.main.file : Str) == file) = true) (htop : (P.main.scope.names.lookup ("super" : Str)).isSome = false)
    (hn : specialIn K (.builtin "object.__class__") "__get__" = some (some (.builtin "getset_descriptor.__get__"))) (htk : takesIn K (.builtin "object.__class__") = some true) (ho : nsIn K cStatics "thirdparty.any" = some none) (su : nsIn K mainGlobals "super" = some none)
    (aC : nsIn K mainGlobals x = some (some (.ref C)))
    (xL : K.lookup C = some (excClassObj nm qn C N bs bm true sn sub ab col dd k0 k1 k2 k3 k5 newId)) (xT : excTail bmB bm = true)
    (sa : findIn K (.ref C) "__setattr__" = some (some (.builtin "object.__setattr__"))) (exC : subIn K (.ref C) (.type "BaseException") = some true) (tyC : typeIn K (.ref C) = some (.type "type")) (kC : keepIn K (.ref C) = true)
    (ga : findIn K (.ref C) "__getattribute__" = some (some (.builtin "BaseException.__getattribute__"))) (gg : findIn K (.ref C) "__getattr__" = some none) (hd : hasDictIn K C = true) (hc : isClsIn K C = true)
    (ha : findIn K (.ref C) "__class__" = some (some (.builtin "object.__class__"))) (mo : mroIn K C (.type "object") = some true) (no : findIn K (.ref C) arg = some none)
    (iC : findIn K (.ref C) "__init__" = some (some (.ref fI))) (tI : typeIn K (.ref fI) = some (.type "function"))
    (lk : K.lookup fI = some ⟨oc, od, .func (ksFn "__init__" qual (iniArgs arg q1 q2) (iniBody arg msg kk p0 p1 p2 p3 p4 p5 p6 p7 p8 p9) (fscope (iniNames arg)) .none .none doc pm an (.ref cda) ct cc), osl⟩)
    (lc : K.lookup cda = some ⟨ccl, cdd, .fields cvs, ccs⟩) (fl : cvs[2]? = some (.str file tf)) (le : K.lookup cc = some ⟨cl, cld, .cell (some (.ref C)), csl⟩) (ms : mroIn K C (.ref C) = some true) (cd : codeIn K (.ref cda) qual = true)
    (si : ks_superIn K C C "__init__" = some (some (.builtin initId))) (sB : subIn K (.ref C) (.type B) = some true) (SO : SupOk msg kk p0 p1 p2 p3 p4)
    (pb : ∀ a b : Value, bindArgs (ksFn "__init__" qual (iniArgs arg q1 q2) (iniBody arg msg kk p0 p1 p2 p3 p4 p5 p6 p7 p8 p9) (fscope (iniNames arg)) .none .none doc pm an (.ref cda) ct cc) ⟨[a, b], []⟩ = pure (((["self", arg] : List Str)).zip [a, b]))
    (k : ((∀ base, ErrC P w K mg base x arg C) ∧ IsX K C) → Goal) : Goal := by
  have T : ErrK K C B newId initId bmB := ⟨FB.NF, FB.noA, FB.noN, FB.IF, FB.pass, FB.obj, ⟨nm, qn, N, bs, bm, sn, sub, ab, col, dd, k0, k1, k2, k3, k5, xL, xT⟩, sa, exC, tyC, kC⟩
  have Z : IniTxt K C cc cda qual file B initId := ⟨⟨ccl, cdd, cvs, ccs, tf, lc, fl⟩, ⟨cl, cld, csl, le⟩, ms, cd, ho, si, sB⟩
  have I : IsX K C := ⟨⟨ga, gg, exC, hd⟩, hc, ha, hn, htk, mo⟩
  obtain ⟨n1, n2, n3, n4, n5, n6, n7⟩ := ini_names ao
  exact k ⟨fun base => ⟨⟨B, newId, initId, bmB, fI, _, T, iC, tI, fn_ini (k := 0) T Z SO lk hfile htop (mg_none_of X G su) no rfl rfl n1 n2 n3 n4 n5 n6 n7, Binds.all fun us hl => match us, hl with | [_, _], _ => pb _ _⟩, mg_of X G aC, I.x, no⟩, I⟩
theorem ao_value : argOk "value" = true := by decide +kernel
theorem ao_who : argOk "who" = true := by decide +kernel
theorem ao_most : argOk "most" = true := by decide +kernel
end TS
namespace TS
open PySem PySem.W L2 PySem.F
/-! a KeyError as the base of an own error -/
abbrev keyMro : List Value := [.type "KeyError", .type "LookupError", .type "Exception", .type "BaseException", .type "object"]
theorem keyPass (self : Value) : refuseLoop self "__setattr__" keyMro = pure () := by kernel_rfl
theorem keyKxs : KxsFacts "KeyError" "KeyError.__init__" := by
  refine ⟨?_, ?_⟩
  · show builtinType _ = _
    rw [builtinType_eq_fast]
    kernel_rfl
  · first | kernel_rfl | rfl
theorem keyIni : IniF "KeyError" "KeyError.__init__" where
  plain := by decide +kernel
  entry := by
    refine entryFor_alias (id' := "BaseException.__init__") ?_ ?_ ?_ ?_
    · rw [fastTable_eq_tree]
      kernel_rfl
    · first | rfl | decide +kernel
    · decide +kernel
    · rw [fastTable_eq_tree]
      kernel_rfl
  kind := by kernel_rfl
  row := by kernel_rfl
  noStar := by decide +kernel
  KF := keyKxs
theorem keyBase : BaseF "KeyError" "LookupError.__new__" "KeyError.__init__" keyMro := ⟨⟨_, _, _, F.excBase_LookupError, by decide +kernel⟩, by decide +kernel, by decide +kernel, keyIni, keyPass, by decide +kernel⟩
end TS
namespace TS
open PySem PySem.W L2
theorem all_mk {l : OpenLaw} {w : World} {K : Frag} {h : Heap} {mg : Str → Option Value} {fa : Addr} {f_num : Addr} {od_num an_num : Option Addr} {sl_num : Array (Option Value)} {oc_num kV_num dc_num pm_num cd_num ct_num : Value} {f_asc : Addr} {od_asc an_asc : Option Addr} {sl_asc : Array (Option Value)} {oc_asc kV_asc dc_asc pm_asc cd_asc ct_asc : Value} {f_word : Addr} {od_word an_word : Option Addr} {sl_word : Array (Option Value)} {oc_word kV_word dc_word pm_word cd_word ct_word : Value} {f_choice : Addr} {od_choice an_choice : Option Addr} {sl_choice : Array (Option Value)} {oc_choice kV_choice dc_choice pm_choice cd_choice ct_choice : Value} {f_tree : Addr} {od_tree an_tree : Option Addr} {sl_tree : Array (Option Value)} {oc_tree kV_tree dc_tree pm_tree cd_tree ct_tree : Value} {f_ttext : Addr} {od_ttext an_ttext : Option Addr} {sl_ttext : Array (Option Value)} {oc_ttext kV_ttext dc_ttext pm_ttext cd_ttext ct_ttext : Value} {f_treeof : Addr} {od_treeof an_treeof : Option Addr} {sl_treeof : Array (Option Value)} {oc_treeof kV_treeof dc_treeof pm_treeof cd_treeof ct_treeof : Value} {f_need : Addr} {od_need an_need : Option Addr} {sl_need : Array (Option Value)} {oc_need kV_need dc_need pm_need cd_need ct_need : Value} {f_text : Addr} {od_text an_text : Option Addr} {sl_text : Array (Option Value)} {oc_text kV_text dc_text pm_text cd_text ct_text : Value} {f_depth : Addr} {od_depth an_depth : Option Addr} {sl_depth : Array (Option Value)} {oc_depth kV_depth dc_depth pm_depth cd_depth ct_depth : Value} {f_kind : Addr} {od_kind an_kind : Option Addr} {sl_kind : Array (Option Value)} {oc_kind kV_kind dc_kind pm_kind cd_kind ct_kind : Value} {f_leaves : Addr} {od_leaves an_leaves : Option Addr} {sl_leaves : Array (Option Value)} {oc_leaves kV_leaves dc_leaves pm_leaves cd_leaves ct_leaves : Value} {f_pool : Addr} {od_pool an_pool : Option Addr} {sl_pool : Array (Option Value)} {oc_pool kV_pool dc_pool pm_pool cd_pool ct_pool : Value} {f_take : Addr} {od_take an_take : Option Addr} {sl_take : Array (Option Value)} {oc_take kV_take dc_take pm_take cd_take ct_take : Value} {f_one : Addr} {od_one an_one : Option Addr} {sl_one : Array (Option Value)} {oc_one kV_one dc_one pm_one cd_one ct_one : Value} {f_words : Addr} {od_words an_words : Option Addr} {sl_words : Array (Option Value)} {oc_words kV_words dc_words pm_words cd_words ct_words : Value} {f_ltree : Addr} {od_ltree an_ltree : Option Addr} {sl_ltree : Array (Option Value)} {oc_ltree kV_ltree dc_ltree pm_ltree cd_ltree ct_ltree : Value} {f_ltext : Addr} {od_ltext an_ltext : Option Addr} {sl_ltext : Array (Option Value)} {oc_ltext kV_ltext dc_ltext pm_ltext cd_ltext ct_ltext : Value} {f_value : Addr} {od_value an_value : Option Addr} {sl_value : Array (Option Value)} {oc_value kV_value dc_value pm_value cd_value ct_value : Value} {f_part : Addr} {od_part an_part : Option Addr} {sl_part : Array (Option Value)} {oc_part kV_part dc_part pm_part cd_part ct_part : Value} {f_lleaves : Addr} {od_lleaves an_lleaves : Option Addr} {sl_lleaves : Array (Option Value)} {oc_lleaves kV_lleaves dc_lleaves pm_lleaves cd_lleaves ct_lleaves : Value} {f_lwords : Addr} {od_lwords an_lwords : Option Addr} {sl_lwords : Array (Option Value)} {oc_lwords kV_lwords dc_lwords pm_lwords cd_lwords ct_lwords : Value} {f_ldigits : Addr} {od_ldigits an_ldigits : Option Addr} {sl_ldigits : Array (Option Value)} {oc_ldigits kV_ldigits dc_ldigits pm_ldigits cd_ldigits ct_ldigits : Value} {f_lworth : Addr} {od_lworth an_lworth : Option Addr} {sl_lworth : Array (Option Value)} {oc_lworth kV_lworth dc_lworth pm_lworth cd_lworth ct_lworth : Value} {f_told : Addr} {od_told an_told : Option Addr} {sl_told : Array (Option Value)} {oc_told kV_told dc_told pm_told cd_told ct_told : Value} {f_due : Addr} {od_due an_due : Option Addr} {sl_due : Array (Option Value)} {oc_due kV_due dc_due pm_due cd_due ct_due : Value} {f_moved : Addr} {od_moved an_moved : Option Addr} {sl_moved : Array (Option Value)} {oc_moved kV_moved dc_moved pm_moved cd_moved ct_moved : Value} {f_law : Addr} {od_law an_law : Option Addr} {sl_law : Array (Option Value)} {oc_law kV_law dc_law pm_law cd_law ct_law : Value} {f_tinit : Addr} {od_tinit an_tinit : Option Addr} {sl_tinit : Array (Option Value)} {oc_tinit kV_tinit dc_tinit pm_tinit cd_tinit ct_tinit : Value} {f_tcall : Addr} {od_tcall an_tcall : Option Addr} {sl_tcall : Array (Option Value)} {oc_tcall kV_tcall dc_tcall pm_tcall cd_tcall ct_tcall : Value} {f_tworth : Addr} {od_tworth an_tworth : Option Addr} {sl_tworth : Array (Option Value)} {oc_tworth kV_tworth dc_tworth pm_tworth cd_tworth ct_tworth : Value} {t_LETTERS : Tok} {t_DIGITS : Tok} {t_PART_SIGNS : Tok} {t_MOST_LETTERS : Tok} {t_MOST_DEPTH : Tok} {t_MOST_CONSTANT : Tok} {C TE N NN : Addr} (X : K.In h) (G : h.Ns mainGlobals mg) (hfa : mg "law" = some (.ref fa)) (EN : (∀ base, ErrC l.prog w K mg base "NoTerm" "value" N) ∧ IsX K N) (ENN : (∀ base, ErrC l.prog w K mg base "NoName" "who" NN) ∧ IsX K NN)
    (aC : nsIn K mainGlobals "Term" = some (some (.ref C)))
    (pg : plainGet K C Str.empty = true)
    (hd : hasDictIn K C = true)
    (po : plainOver K C = true)
    (sa : findIn K (.ref C) "__setattr__" = some (some (.builtin "object.__setattr__")))
    (mk : makesIn K C = true)
    (kc : keepIn K (.ref C) = true)
    (n1 : findIn K (.ref C) "_tree" = some none)
    (n2 : findIn K (.ref C) "_text" = some none)
    (n3 : findIn K (.ref C) "_depth" = some none)
    (n4 : findIn K (.ref C) "_kind" = some none)
    (n5 : findIn K (.ref C) "_leaves" = some none)
    (n6 : findIn K (.ref C) "_variables" = some none)
    (n7 : findIn K (.ref C) "_constants" = some none)
    (ha : findIn K (.ref C) "__class__" = some (some (.builtin "object.__class__")))
    (hn : specialIn K (.builtin "object.__class__") "__get__" = some (some (.builtin "getset_descriptor.__get__")))
    (htk : takesIn K (.builtin "object.__class__") = some true)
    (hm : mroIn K C (.type "object") = some true)
    (kC : kitOne K (.ref C) (.ref C) = some true)
    (kStr : kitOne K (.type "str") (.ref C) = some false)
    (kInt : kitOne K (.type "int") (.ref C) = some false)
    (kTup : kitOne K (.type "tuple") (.ref C) = some false)
    (kCS : kitOne K (.ref C) (.type "str") = some false)
    (ex : exmOne K (.ref N) (.ref N) = some true)
    (aTE : nsIn K mainGlobals "TiedError" = some (some (.ref TE)))
    (exW : exmOne K (.ref NN) (.ref NN) = some true)
    (exNW : exmOne K (.ref N) (.ref NN) = some false)
    (kKE : kitOne K (.ref NN) (.type "KeyError") = some true)
    (kWT : kitOne K (.ref NN) (.ref TE) = some false)
    (a_num : nsIn K mainGlobals "is_number" = some (some (.ref f_num)))
    (l_num : K.lookup f_num = some ⟨oc_num, od_num, .func (fnOf "is_number" "is_number" (defArgs sIsNum) (defBody sIsNum) (defScope sIsNum) .none kV_num dc_num pm_num an_num cd_num ct_num), sl_num⟩)
    (c_num : codeIn K cd_num "is_number" = true)
    (k_num : keepIn K (.ref f_num) = true)
    (a_asc : nsIn K mainGlobals "ascending" = some (some (.ref f_asc)))
    (l_asc : K.lookup f_asc = some ⟨oc_asc, od_asc, .func (fnOf "ascending" "ascending" (defArgs sAsc) (defBody sAsc) (defScope sAsc) .none kV_asc dc_asc pm_asc an_asc cd_asc ct_asc), sl_asc⟩)
    (c_asc : codeIn K cd_asc "ascending" = true)
    (k_asc : keepIn K (.ref f_asc) = true)
    (a_word : nsIn K mainGlobals "_word_end" = some (some (.ref f_word)))
    (l_word : K.lookup f_word = some ⟨oc_word, od_word, .func (fnOf "_word_end" "_word_end" (defArgs sWord) (defBody sWord) (defScope sWord) .none kV_word dc_word pm_word an_word cd_word ct_word), sl_word⟩)
    (c_word : codeIn K cd_word "_word_end" = true)
    (k_word : keepIn K (.ref f_word) = true)
    (a_choice : nsIn K mainGlobals "_choice_at" = some (some (.ref f_choice)))
    (l_choice : K.lookup f_choice = some ⟨oc_choice, od_choice, .func (fnOf "_choice_at" "_choice_at" (defArgs sChoice) (defBody sChoice) (defScope sChoice) .none kV_choice dc_choice pm_choice an_choice cd_choice ct_choice), sl_choice⟩)
    (c_choice : codeIn K cd_choice "_choice_at" = true)
    (k_choice : keepIn K (.ref f_choice) = true)
    (a_tree : nsIn K mainGlobals "_tree_at" = some (some (.ref f_tree)))
    (l_tree : K.lookup f_tree = some ⟨oc_tree, od_tree, .func (fnOf "_tree_at" "_tree_at" (defArgs sTree) (defBody sTree) (defScope sTree) .none kV_tree dc_tree pm_tree an_tree cd_tree ct_tree), sl_tree⟩)
    (c_tree : codeIn K cd_tree "_tree_at" = true)
    (k_tree : keepIn K (.ref f_tree) = true)
    (a_ttext : nsIn K mainGlobals "_tree_of_text" = some (some (.ref f_ttext)))
    (l_ttext : K.lookup f_ttext = some ⟨oc_ttext, od_ttext, .func (fnOf "_tree_of_text" "_tree_of_text" (defArgs sTreeText) (defBody sTreeText) (defScope sTreeText) .none kV_ttext dc_ttext pm_ttext an_ttext cd_ttext ct_ttext), sl_ttext⟩)
    (c_ttext : codeIn K cd_ttext "_tree_of_text" = true)
    (k_ttext : keepIn K (.ref f_ttext) = true)
    (a_treeof : nsIn K mainGlobals "_tree_of" = some (some (.ref f_treeof)))
    (l_treeof : K.lookup f_treeof = some ⟨oc_treeof, od_treeof, .func (fnOf "_tree_of" "_tree_of" (defArgs sTreeOf) (defBody sTreeOf) (defScope sTreeOf) .none kV_treeof dc_treeof pm_treeof an_treeof cd_treeof ct_treeof), sl_treeof⟩)
    (c_treeof : codeIn K cd_treeof "_tree_of" = true)
    (k_treeof : keepIn K (.ref f_treeof) = true)
    (a_need : nsIn K mainGlobals "_needed_tree" = some (some (.ref f_need)))
    (l_need : K.lookup f_need = some ⟨oc_need, od_need, .func (fnOf "_needed_tree" "_needed_tree" (defArgs sNeed) (defBody sNeed) (defScope sNeed) .none kV_need dc_need pm_need an_need cd_need ct_need), sl_need⟩)
    (c_need : codeIn K cd_need "_needed_tree" = true)
    (k_need : keepIn K (.ref f_need) = true)
    (a_text : nsIn K mainGlobals "_text_of" = some (some (.ref f_text)))
    (l_text : K.lookup f_text = some ⟨oc_text, od_text, .func (fnOf "_text_of" "_text_of" (defArgs sText) (defBody sText) (defScope sText) .none kV_text dc_text pm_text an_text cd_text ct_text), sl_text⟩)
    (c_text : codeIn K cd_text "_text_of" = true)
    (k_text : keepIn K (.ref f_text) = true)
    (a_depth : nsIn K mainGlobals "_depth_of" = some (some (.ref f_depth)))
    (l_depth : K.lookup f_depth = some ⟨oc_depth, od_depth, .func (fnOf "_depth_of" "_depth_of" (defArgs sDepth) (defBody sDepth) (defScope sDepth) .none kV_depth dc_depth pm_depth an_depth cd_depth ct_depth), sl_depth⟩)
    (c_depth : codeIn K cd_depth "_depth_of" = true)
    (k_depth : keepIn K (.ref f_depth) = true)
    (a_kind : nsIn K mainGlobals "_kind_of" = some (some (.ref f_kind)))
    (l_kind : K.lookup f_kind = some ⟨oc_kind, od_kind, .func (fnOf "_kind_of" "_kind_of" (defArgs sKind) (defBody sKind) (defScope sKind) .none kV_kind dc_kind pm_kind an_kind cd_kind ct_kind), sl_kind⟩)
    (c_kind : codeIn K cd_kind "_kind_of" = true)
    (k_kind : keepIn K (.ref f_kind) = true)
    (a_leaves : nsIn K mainGlobals "_leaves_of" = some (some (.ref f_leaves)))
    (l_leaves : K.lookup f_leaves = some ⟨oc_leaves, od_leaves, .func (fnOf "_leaves_of" "_leaves_of" (defArgs sLeaves) (defBody sLeaves) (defScope sLeaves) .none kV_leaves dc_leaves pm_leaves an_leaves cd_leaves ct_leaves), sl_leaves⟩)
    (c_leaves : codeIn K cd_leaves "_leaves_of" = true)
    (k_leaves : keepIn K (.ref f_leaves) = true)
    (a_pool : nsIn K mainGlobals "_law_pool" = some (some (.ref f_pool)))
    (l_pool : K.lookup f_pool = some ⟨oc_pool, od_pool, .func (fnOf "_law_pool" "_law_pool" (defArgs sPool) (defBody sPool) (defScope sPool) .none kV_pool dc_pool pm_pool an_pool cd_pool ct_pool), sl_pool⟩)
    (c_pool : codeIn K cd_pool "_law_pool" = true)
    (k_pool : keepIn K (.ref f_pool) = true)
    (a_take : nsIn K mainGlobals "_law_take" = some (some (.ref f_take)))
    (l_take : K.lookup f_take = some ⟨oc_take, od_take, .func (fnOf "_law_take" "_law_take" (defArgs sTake) (defBody sTake) (defScope sTake) .none kV_take dc_take pm_take an_take cd_take ct_take), sl_take⟩)
    (c_take : codeIn K cd_take "_law_take" = true)
    (k_take : keepIn K (.ref f_take) = true)
    (a_one : nsIn K mainGlobals "_law_one" = some (some (.ref f_one)))
    (l_one : K.lookup f_one = some ⟨oc_one, od_one, .func (fnOf "_law_one" "_law_one" (defArgs sOne) (defBody sOne) (defScope sOne) .none kV_one dc_one pm_one an_one cd_one ct_one), sl_one⟩)
    (c_one : codeIn K cd_one "_law_one" = true)
    (k_one : keepIn K (.ref f_one) = true)
    (a_words : nsIn K mainGlobals "_law_words" = some (some (.ref f_words)))
    (l_words : K.lookup f_words = some ⟨oc_words, od_words, .func (fnOf "_law_words" "_law_words" (defArgs sWords) (defBody sWords) (defScope sWords) .none kV_words dc_words pm_words an_words cd_words ct_words), sl_words⟩)
    (c_words : codeIn K cd_words "_law_words" = true)
    (k_words : keepIn K (.ref f_words) = true)
    (a_ltree : nsIn K mainGlobals "_law_tree" = some (some (.ref f_ltree)))
    (l_ltree : K.lookup f_ltree = some ⟨oc_ltree, od_ltree, .func (fnOf "_law_tree" "_law_tree" (defArgs sLTree) (defBody sLTree) (defScope sLTree) .none kV_ltree dc_ltree pm_ltree an_ltree cd_ltree ct_ltree), sl_ltree⟩)
    (c_ltree : codeIn K cd_ltree "_law_tree" = true)
    (k_ltree : keepIn K (.ref f_ltree) = true)
    (a_ltext : nsIn K mainGlobals "_law_tree_text" = some (some (.ref f_ltext)))
    (l_ltext : K.lookup f_ltext = some ⟨oc_ltext, od_ltext, .func (fnOf "_law_tree_text" "_law_tree_text" (defArgs sLText) (defBody sLText) (defScope sLText) .none kV_ltext dc_ltext pm_ltext an_ltext cd_ltext ct_ltext), sl_ltext⟩)
    (c_ltext : codeIn K cd_ltext "_law_tree_text" = true)
    (k_ltext : keepIn K (.ref f_ltext) = true)
    (a_value : nsIn K mainGlobals "_value_of" = some (some (.ref f_value)))
    (l_value : K.lookup f_value = some ⟨oc_value, od_value, .func (fnOf "_value_of" "_value_of" (defArgs sValue) (defBody sValue) (defScope sValue) .none kV_value dc_value pm_value an_value cd_value ct_value), sl_value⟩)
    (c_value : codeIn K cd_value "_value_of" = true)
    (k_value : keepIn K (.ref f_value) = true)
    (a_part : nsIn K mainGlobals "_law_part" = some (some (.ref f_part)))
    (l_part : K.lookup f_part = some ⟨oc_part, od_part, .func (fnOf "_law_part" "_law_part" (defArgs sPart) (defBody sPart) (defScope sPart) .none kV_part dc_part pm_part an_part cd_part ct_part), sl_part⟩)
    (c_part : codeIn K cd_part "_law_part" = true)
    (k_part : keepIn K (.ref f_part) = true)
    (a_lleaves : nsIn K mainGlobals "_law_tree_leaves" = some (some (.ref f_lleaves)))
    (l_lleaves : K.lookup f_lleaves = some ⟨oc_lleaves, od_lleaves, .func (fnOf "_law_tree_leaves" "_law_tree_leaves" (defArgs sLLeaves) (defBody sLLeaves) (defScope sLLeaves) .none kV_lleaves dc_lleaves pm_lleaves an_lleaves cd_lleaves ct_lleaves), sl_lleaves⟩)
    (c_lleaves : codeIn K cd_lleaves "_law_tree_leaves" = true)
    (k_lleaves : keepIn K (.ref f_lleaves) = true)
    (a_lwords : nsIn K mainGlobals "_law_tree_words" = some (some (.ref f_lwords)))
    (l_lwords : K.lookup f_lwords = some ⟨oc_lwords, od_lwords, .func (fnOf "_law_tree_words" "_law_tree_words" (defArgs sLWords) (defBody sLWords) (defScope sLWords) .none kV_lwords dc_lwords pm_lwords an_lwords cd_lwords ct_lwords), sl_lwords⟩)
    (c_lwords : codeIn K cd_lwords "_law_tree_words" = true)
    (k_lwords : keepIn K (.ref f_lwords) = true)
    (a_ldigits : nsIn K mainGlobals "_law_tree_digits" = some (some (.ref f_ldigits)))
    (l_ldigits : K.lookup f_ldigits = some ⟨oc_ldigits, od_ldigits, .func (fnOf "_law_tree_digits" "_law_tree_digits" (defArgs sLDigits) (defBody sLDigits) (defScope sLDigits) .none kV_ldigits dc_ldigits pm_ldigits an_ldigits cd_ldigits ct_ldigits), sl_ldigits⟩)
    (c_ldigits : codeIn K cd_ldigits "_law_tree_digits" = true)
    (k_ldigits : keepIn K (.ref f_ldigits) = true)
    (a_lworth : nsIn K mainGlobals "_law_tree_worth" = some (some (.ref f_lworth)))
    (l_lworth : K.lookup f_lworth = some ⟨oc_lworth, od_lworth, .func (fnOf "_law_tree_worth" "_law_tree_worth" (defArgs sLWorth) (defBody sLWorth) (defScope sLWorth) .none kV_lworth dc_lworth pm_lworth an_lworth cd_lworth ct_lworth), sl_lworth⟩)
    (c_lworth : codeIn K cd_lworth "_law_tree_worth" = true)
    (k_lworth : keepIn K (.ref f_lworth) = true)
    (a_told : nsIn K mainGlobals "_law_told" = some (some (.ref f_told)))
    (l_told : K.lookup f_told = some ⟨oc_told, od_told, .func (fnOf "_law_told" "_law_told" (defArgs sTold) (defBody sTold) (defScope sTold) .none kV_told dc_told pm_told an_told cd_told ct_told), sl_told⟩)
    (c_told : codeIn K cd_told "_law_told" = true)
    (k_told : keepIn K (.ref f_told) = true)
    (a_due : nsIn K mainGlobals "_law_due" = some (some (.ref f_due)))
    (l_due : K.lookup f_due = some ⟨oc_due, od_due, .func (fnOf "_law_due" "_law_due" (defArgs sDue) (defBody sDue) (defScope sDue) .none kV_due dc_due pm_due an_due cd_due ct_due), sl_due⟩)
    (c_due : codeIn K cd_due "_law_due" = true)
    (k_due : keepIn K (.ref f_due) = true)
    (a_moved : nsIn K mainGlobals "_law_moved_right" = some (some (.ref f_moved)))
    (l_moved : K.lookup f_moved = some ⟨oc_moved, od_moved, .func (fnOf "_law_moved_right" "_law_moved_right" (defArgs sMoved) (defBody sMoved) (defScope sMoved) .none kV_moved dc_moved pm_moved an_moved cd_moved ct_moved), sl_moved⟩)
    (c_moved : codeIn K cd_moved "_law_moved_right" = true)
    (k_moved : keepIn K (.ref f_moved) = true)
    (a_law : nsIn K mainGlobals "law" = some (some (.ref f_law)))
    (l_law : K.lookup f_law = some ⟨oc_law, od_law, .func (fnOf "law" "law" (defArgs sLaw) (defBody sLaw) (defScope sLaw) .none kV_law dc_law pm_law an_law cd_law ct_law), sl_law⟩)
    (c_law : codeIn K cd_law "law" = true)
    (k_law : keepIn K (.ref f_law) = true)
    (a_tinit : findIn K (.ref C) "__init__" = some (some (.ref f_tinit)))
    (i_tinit : isFn K (.ref f_tinit) = true)
    (l_tinit : K.lookup f_tinit = some ⟨oc_tinit, od_tinit, .func (fnOf "__init__" "Term.__init__" (defArgs sTInit) (defBody sTInit) (defScope sTInit) .none kV_tinit dc_tinit pm_tinit an_tinit cd_tinit ct_tinit), sl_tinit⟩)
    (c_tinit : codeIn K cd_tinit "Term.__init__" = true)
    (k_tinit : keepIn K (.ref f_tinit) = true)
    (a_tcall : findIn K (.ref C) "__call__" = some (some (.ref f_tcall)))
    (i_tcall : isFn K (.ref f_tcall) = true)
    (l_tcall : K.lookup f_tcall = some ⟨oc_tcall, od_tcall, .func (fnOf "__call__" "Term.__call__" (defArgs sTCall) (defBody sTCall) (defScope sTCall) .none kV_tcall dc_tcall pm_tcall an_tcall cd_tcall ct_tcall), sl_tcall⟩)
    (c_tcall : codeIn K cd_tcall "Term.__call__" = true)
    (k_tcall : keepIn K (.ref f_tcall) = true)
    (a_tworth : findIn K (.ref C) "worth" = some (some (.ref f_tworth)))
    (i_tworth : isFn K (.ref f_tworth) = true)
    (l_tworth : K.lookup f_tworth = some ⟨oc_tworth, od_tworth, .func (fnOf "worth" "Term.worth" (defArgs sTWorth) (defBody sTWorth) (defScope sTWorth) .none kV_tworth dc_tworth pm_tworth an_tworth cd_tworth ct_tworth), sl_tworth⟩)
    (c_tworth : codeIn K cd_tworth "Term.worth" = true)
    (k_tworth : keepIn K (.ref f_tworth) = true)
    (z_isinstance : nsIn K mainGlobals "isinstance" = some none)
    (z_tuple : nsIn K mainGlobals "tuple" = some none)
    (z_str : nsIn K mainGlobals "str" = some none)
    (z_int : nsIn K mainGlobals "int" = some none)
    (z_bool : nsIn K mainGlobals "bool" = some none)
    (z_max : nsIn K mainGlobals "max" = some none)
    (z_set : nsIn K mainGlobals "set" = some none)
    (z_sorted : nsIn K mainGlobals "sorted" = some none)
    (z_len : nsIn K mainGlobals "len" = some none)
    (z_any : nsIn K mainGlobals "any" = some none)
    (z_range : nsIn K mainGlobals "range" = some none)
    (z_list : nsIn K mainGlobals "list" = some none)
    (z_min : nsIn K mainGlobals "min" = some none)
    (z_enumerate : nsIn K mainGlobals "enumerate" = some none)
    (z_repr : nsIn K mainGlobals "repr" = some none)
    (z_dict : nsIn K mainGlobals "dict" = some none)
    (z_KeyError : nsIn K mainGlobals "KeyError" = some none)
    (v_LETTERS : nsIn K mainGlobals "LETTERS" = some (some (.str "abcdefghijklmnopqrstuvwxyz" t_LETTERS)))
    (v_DIGITS : nsIn K mainGlobals "DIGITS" = some (some (.str "0123456789" t_DIGITS)))
    (v_PART_SIGNS : nsIn K mainGlobals "PART_SIGNS" = some (some (.str "(=?:" t_PART_SIGNS)))
    (v_MOST_LETTERS : nsIn K mainGlobals "MOST_LETTERS" = some (some (.int 8 t_MOST_LETTERS)))
    (v_MOST_DEPTH : nsIn K mainGlobals "MOST_DEPTH" = some (some (.int 3 t_MOST_DEPTH)))
    (v_MOST_CONSTANT : nsIn K mainGlobals "MOST_CONSTANT" = some (some (.int 9 t_MOST_CONSTANT)))
    : ∃ fd : FuncData, (∀ (s : Shared) (v : Value), BindsTo s fd ⟨[v], []⟩ [("script", v)]) ∧ ∀ base : Heap, K.In base → base.Ns mainGlobals mg → FnG l.prog w K mg base 15 fa fd ["script"] (spLaw K) := by
  have e := hfa.symm.trans (mg_of X G a_law)
  cases e
  have F_num := fun_mk (st := sIsNum) l_num c_num k_num
  have b_num := F_num.binds (ps := ["value"]) fun _ _ _ _ _ _ us hl => match us, hl with | [_], _ => rfl
  have m_num := mg_of X G a_num
  have F_asc := fun_mk (st := sAsc) l_asc c_asc k_asc
  have b_asc := F_asc.binds (ps := ["values"]) fun _ _ _ _ _ _ us hl => match us, hl with | [_], _ => rfl
  have m_asc := mg_of X G a_asc
  have F_word := fun_mk (st := sWord) l_word c_word k_word
  have b_word := F_word.binds (ps := ["text", "at"]) fun _ _ _ _ _ _ us hl => match us, hl with | [_, _], _ => rfl
  have m_word := mg_of X G a_word
  have F_choice := fun_mk (st := sChoice) l_choice c_choice k_choice
  have b_choice := F_choice.binds (ps := ["text", "at", "room"]) fun _ _ _ _ _ _ us hl => match us, hl with | [_, _, _], _ => rfl
  have m_choice := mg_of X G a_choice
  have F_tree := fun_mk (st := sTree) l_tree c_tree k_tree
  have b_tree := F_tree.binds (ps := ["text", "at", "room"]) fun _ _ _ _ _ _ us hl => match us, hl with | [_, _, _], _ => rfl
  have m_tree := mg_of X G a_tree
  have F_ttext := fun_mk (st := sTreeText) l_ttext c_ttext k_ttext
  have b_ttext := F_ttext.binds (ps := ["text"]) fun _ _ _ _ _ _ us hl => match us, hl with | [_], _ => rfl
  have m_ttext := mg_of X G a_ttext
  have F_treeof := fun_mk (st := sTreeOf) l_treeof c_treeof k_treeof
  have b_treeof := F_treeof.binds (ps := ["value"]) fun _ _ _ _ _ _ us hl => match us, hl with | [_], _ => rfl
  have m_treeof := mg_of X G a_treeof
  have F_need := fun_mk (st := sNeed) l_need c_need k_need
  have b_need := F_need.binds (ps := ["value"]) fun _ _ _ _ _ _ us hl => match us, hl with | [_], _ => rfl
  have m_need := mg_of X G a_need
  have F_text := fun_mk (st := sText) l_text c_text k_text
  have b_text := F_text.binds (ps := ["tree"]) fun _ _ _ _ _ _ us hl => match us, hl with | [_], _ => rfl
  have m_text := mg_of X G a_text
  have F_depth := fun_mk (st := sDepth) l_depth c_depth k_depth
  have b_depth := F_depth.binds (ps := ["tree"]) fun _ _ _ _ _ _ us hl => match us, hl with | [_], _ => rfl
  have m_depth := mg_of X G a_depth
  have F_kind := fun_mk (st := sKind) l_kind c_kind k_kind
  have b_kind := F_kind.binds (ps := ["tree"]) fun _ _ _ _ _ _ us hl => match us, hl with | [_], _ => rfl
  have m_kind := mg_of X G a_kind
  have F_leaves := fun_mk (st := sLeaves) l_leaves c_leaves k_leaves
  have b_leaves := F_leaves.binds (ps := ["tree"]) fun _ _ _ _ _ _ us hl => match us, hl with | [_], _ => rfl
  have m_leaves := mg_of X G a_leaves
  have F_pool := fun_mk (st := sPool) l_pool c_pool k_pool
  have b_pool := F_pool.binds (ps := ["script", "k"]) fun _ _ _ _ _ _ us hl => match us, hl with | [_, _], _ => rfl
  have m_pool := mg_of X G a_pool
  have F_take := fun_mk (st := sTake) l_take c_take k_take
  have b_take := F_take.binds (ps := ["pool", "bound"]) fun _ _ _ _ _ _ us hl => match us, hl with | [_, _], _ => rfl
  have m_take := mg_of X G a_take
  have F_one := fun_mk (st := sOne) l_one c_one k_one
  have b_one := F_one.binds (ps := ["pool", "things"]) fun _ _ _ _ _ _ us hl => match us, hl with | [_, _], _ => rfl
  have m_one := mg_of X G a_one
  have F_words := fun_mk (st := sWords) l_words c_words k_words
  have b_words := F_words.binds (ps := ["pool", "bound"]) fun _ _ _ _ _ _ us hl => match us, hl with | [_, _], _ => rfl
  have m_words := mg_of X G a_words
  have F_ltree := fun_mk (st := sLTree) l_ltree c_ltree k_ltree
  have b_ltree := F_ltree.binds (ps := ["pool", "words", "digits", "deep"]) fun _ _ _ _ _ _ us hl => match us, hl with | [_, _, _, _], _ => rfl
  have m_ltree := mg_of X G a_ltree
  have F_ltext := fun_mk (st := sLText) l_ltext c_ltext k_ltext
  have b_ltext := F_ltext.binds (ps := ["tree"]) fun _ _ _ _ _ _ us hl => match us, hl with | [_], _ => rfl
  have m_ltext := mg_of X G a_ltext
  have F_value := fun_mk (st := sValue) l_value c_value k_value
  have b_value := F_value.binds (ps := ["tree", "values"]) fun _ _ _ _ _ _ us hl => match us, hl with | [_, _], _ => rfl
  have m_value := mg_of X G a_value
  have F_part := fun_mk (st := sPart) l_part c_part k_part
  have b_part := F_part.binds (ps := ["pool", "things"]) fun _ _ _ _ _ _ us hl => match us, hl with | [_, _], _ => rfl
  have m_part := mg_of X G a_part
  have F_lleaves := fun_mk (st := sLLeaves) l_lleaves c_lleaves k_lleaves
  have b_lleaves := F_lleaves.binds (ps := ["tree"]) fun _ _ _ _ _ _ us hl => match us, hl with | [_], _ => rfl
  have m_lleaves := mg_of X G a_lleaves
  have F_lwords := fun_mk (st := sLWords) l_lwords c_lwords k_lwords
  have b_lwords := F_lwords.binds (ps := ["tree"]) fun _ _ _ _ _ _ us hl => match us, hl with | [_], _ => rfl
  have m_lwords := mg_of X G a_lwords
  have F_ldigits := fun_mk (st := sLDigits) l_ldigits c_ldigits k_ldigits
  have b_ldigits := F_ldigits.binds (ps := ["tree"]) fun _ _ _ _ _ _ us hl => match us, hl with | [_], _ => rfl
  have m_ldigits := mg_of X G a_ldigits
  have F_lworth := fun_mk (st := sLWorth) l_lworth c_lworth k_lworth
  have b_lworth := F_lworth.binds (ps := ["tree", "held"]) fun _ _ _ _ _ _ us hl => match us, hl with | [_, _], _ => rfl
  have m_lworth := mg_of X G a_lworth
  have F_told := fun_mk (st := sTold) l_told c_told k_told
  have b_told := F_told.binds (ps := ["term", "held"]) fun _ _ _ _ _ _ us hl => match us, hl with | [_, _], _ => rfl
  have m_told := mg_of X G a_told
  have F_due := fun_mk (st := sDue) l_due c_due k_due
  have b_due := F_due.binds (ps := ["tree", "held"]) fun _ _ _ _ _ _ us hl => match us, hl with | [_, _], _ => rfl
  have m_due := mg_of X G a_due
  have F_moved := fun_mk (st := sMoved) l_moved c_moved k_moved
  have b_moved := F_moved.binds (ps := ["tree", "held", "digits"]) fun _ _ _ _ _ _ us hl => match us, hl with | [_, _, _], _ => rfl
  have m_moved := mg_of X G a_moved
  have F_law := fun_mk (st := sLaw) l_law c_law k_law
  have b_law := F_law.binds (ps := ["script"]) fun _ _ _ _ _ _ us hl => match us, hl with | [_], _ => rfl
  have m_law := mg_of X G a_law
  have F_tinit := fun_mk (st := sTInit) l_tinit c_tinit k_tinit
  have b_tinit := F_tinit.binds (ps := ["self", "value"]) fun _ _ _ _ _ _ us hl => match us, hl with | [_, _], _ => rfl
  have F_tcall := fun_mk (st := sTCall) l_tcall c_tcall k_tcall
  have b_tcall := F_tcall.binds (ps := ["self", "values"]) fun _ _ _ _ _ _ us hl => match us, hl with | [_, _], _ => rfl
  have F_tworth := fun_mk (st := sTWorth) l_tworth c_tworth k_tworth
  have b_tworth := F_tworth.binds (ps := ["self", "values"]) fun _ _ _ _ _ _ us hl => match us, hl with | [_, _], _ => rfl
  have T : BltT mg := ⟨mg_none_of X G z_isinstance, mg_none_of X G z_tuple, mg_none_of X G z_str, mg_none_of X G z_int, mg_none_of X G z_bool, mg_none_of X G z_max, mg_none_of X G z_set, mg_none_of X G z_sorted, mg_none_of X G z_len, mg_none_of X G z_any⟩
  have U : BltU mg := ⟨mg_none_of X G z_range, mg_none_of X G z_list, mg_none_of X G z_min, mg_none_of X G z_enumerate⟩
  have M : CstT mg := ⟨⟨_, mg_of X G v_LETTERS⟩, ⟨_, mg_of X G v_DIGITS⟩, ⟨_, mg_of X G v_PART_SIGNS⟩, ⟨_, mg_of X G v_MOST_LETTERS⟩, ⟨_, mg_of X G v_MOST_DEPTH⟩⟩
  have TK : TermK K mg C := ⟨⟨pg, hd, po, sa⟩, mg_of X G aC, n1, n2, n3, n4, n5, n6, n7, ha, hn, htk, hm, kC, kStr, kInt, kTup, kCS⟩
  have R : RdF K mg _ _ _ _ _ _ := ⟨F_word, b_word, m_word, F_choice, b_choice, m_choice, F_tree, b_tree, m_tree⟩
  refine ⟨fnOf "law" "law" (defArgs sLaw) (defBody sLaw) (defScope sLaw) .none kV_law dc_law pm_law an_law cd_law ct_law, fun s v => .of_eq rfl, fun base _ _ => ?_⟩
  have GTT : FnOk l.prog w K mg base CX0 9 _ _ ["text"] spTreeText := ok_treeText F_ttext R T M
  have GTO : FnOk l.prog w K mg base CX0 10 _ _ ["value"] (spTreeOf K C) := ok_treeOf F_treeof T TK ⟨_, mg_of X G v_MOST_CONSTANT⟩ F_ttext b_ttext m_ttext GTT F_num b_num m_num
  have Hneed : Has l.prog w K mg base "_needed_tree" 11 ["value"] (spNeed C) := .mk F_need m_need b_need (ok_need F_need T TK F_treeof b_treeof m_treeof GTO)
  have Htext : Has l.prog w K mg base "_text_of" 3 ["tree"] (spText 3) := .mk F_text m_text b_text (ok_text F_text T b_text m_text (ok_text F_text T b_text m_text (ok_text F_text T b_text m_text none_text)))
  have Hdepth : Has l.prog w K mg base "_depth_of" 3 ["tree"] (spDepth 3) := .mk F_depth m_depth b_depth (ok_depth F_depth T b_depth m_depth (ok_depth F_depth T b_depth m_depth (ok_depth F_depth T b_depth m_depth none_depth)))
  have Hkind : Has l.prog w K mg base "_kind_of" 1 ["tree"] spKind := .mk F_kind m_kind b_kind (ok_kind F_kind T)
  have Hleaves : Has l.prog w K mg base "_leaves_of" 3 ["tree"] (spLeaves 3) := .mk F_leaves m_leaves b_leaves (ok_leaves F_leaves T b_leaves m_leaves (ok_leaves F_leaves T b_leaves m_leaves (ok_leaves F_leaves T b_leaves m_leaves none_leaves)))
  have Hasc : Has l.prog w K mg base "ascending" 1 ["values"] spAsc := .mk F_asc m_asc b_asc (ok_asc F_asc T)
  have DT : HasTerm l.prog w K mg base C := ⟨_, _, ⟨mk, a_tinit, i_tinit, kc⟩, b_tinit, ok_tinit F_tinit T TK Hneed Htext Hdepth Hkind Hleaves Hasc⟩
  have Hnum : Has l.prog w K mg base "is_number" 1 ["value"] (spNum K) := .mk F_num m_num b_num (ok_num F_num T)
  have Hvalue : Has l.prog w K mg base "_value_of" 3 ["tree", "values"] (spVal 3) := .mk F_value m_value b_value (ok_value F_value T b_value m_value (ok_value F_value T b_value m_value (ok_value F_value T b_value m_value (none_val rfl))))
  have Hlworth : Has l.prog w K mg base "_law_tree_worth" 3 ["tree", "held"] (spVal 3) := .mk F_lworth m_lworth b_lworth (ok_lworth F_lworth T b_lworth m_lworth (ok_lworth F_lworth T b_lworth m_lworth (ok_lworth F_lworth T b_lworth m_lworth (none_val rfl))))
  have md : mg "dict" = none := mg_none_of X G z_dict
  have mr : mg "repr" = none := mg_none_of X G z_repr
  have Hworth : HasM l.prog w K mg base C "worth" 4 ["self", "values"] (spTWorth C) := ⟨_, _, ⟨a_tworth, i_tworth, k_tworth⟩, b_tworth, ok_tworth F_tworth TK Hvalue⟩
  have GC := ok_tcall F_tcall T md TK (EN.1 base) (ENN.1 base) Hnum Hworth
  have Hpool : Has l.prog w K mg base "_law_pool" 1 ["script", "k"] (spPool K) := .mk F_pool m_pool b_pool (ok_pool F_pool T)
  have Htake : Has l.prog w K mg base "_law_take" 1 ["pool", "bound"] spTake := .mk F_take m_take b_take (ok_take F_take T)
  have Hone : Has l.prog w K mg base "_law_one" 2 ["pool", "things"] (spOne K) := .mk F_one m_one b_one (ok_one F_one T Htake)
  have Hpart : Has l.prog w K mg base "_law_part" 2 ["pool", "things"] spPart := .mk F_part m_part b_part (ok_part F_part Htake)
  have Hwords : Has l.prog w K mg base "_law_words" 3 ["pool", "bound"] spWords := .mk F_words m_words b_words (ok_words F_words T U Htake Hone)
  have Hltree : Has l.prog w K mg base "_law_tree" 5 ["pool", "words", "digits", "deep"] (spLTreeW 3) := .mk F_ltree m_ltree b_ltree (ok_ltreeW (n := 2) F_ltree T U b_ltree m_ltree Htake Hone (ok_ltreeW (n := 1) F_ltree T U b_ltree m_ltree Htake Hone (ok_ltreeW (n := 0) F_ltree T U b_ltree m_ltree Htake Hone none_ltreeW)))
  have Hltext : Has l.prog w K mg base "_law_tree_text" 3 ["tree"] (spText 3) := .mk F_ltext m_ltext b_ltext (ok_ltext F_ltext T b_ltext m_ltext (ok_ltext F_ltext T b_ltext m_ltext (ok_ltext F_ltext T b_ltext m_ltext none_text)))
  have Hlleaves : Has l.prog w K mg base "_law_tree_leaves" 3 ["tree"] (spLeaves 3) := .mk F_lleaves m_lleaves b_lleaves (ok_lleaves F_lleaves T b_lleaves m_lleaves (ok_lleaves F_lleaves T b_lleaves m_lleaves (ok_lleaves F_lleaves T b_lleaves m_lleaves none_leaves)))
  have Hlwords : Has l.prog w K mg base "_law_tree_words" 4 ["tree"] spLWords := .mk F_lwords m_lwords b_lwords (ok_lwords F_lwords T Hlleaves)
  have Hldigits : Has l.prog w K mg base "_law_tree_digits" 4 ["tree"] spLDigits := .mk F_ldigits m_ldigits b_ldigits (ok_ldigits F_ldigits T Hlleaves)
  have Z : ErrF l.prog w K mg base N NN TE := ⟨EN.1 base, ENN.1 base, ENN.2, ex, exW, exNW, mg_none_of X G z_KeyError, mg_of X G aTE, kKE, kWT⟩
  have Htold : HasG l.prog w K mg base "_law_told" 6 ["term", "held"] (spTold3 K C) := ⟨_, _, m_told, k_told, b_told, ok_told F_told T mr TK Z a_tcall i_tcall l_tcall rfl b_tcall GC⟩
  have Hdue : HasG l.prog w K mg base "_law_due" 5 ["tree", "held"] spDue3 := ⟨_, _, m_due, k_due, b_due, ok_due F_due T mr Hlwords Hlworth⟩
  have Hmoved : Has l.prog w K mg base "_law_moved_right" 14 ["tree", "held", "digits"] spMoved := .mk F_moved m_moved b_moved (ok_moved F_moved T md TK a_tcall i_tcall l_tcall rfl b_tcall GC Hlworth Hltext DT)
  exact ok_law F_law ⟨T, U, mr, md, TK, DT, Htold, Hdue, Hmoved, Hldigits, Hpart, Hone, Hltext, Hpool, Htake, Hwords, Hltree⟩
theorem file_ok : ((PySem.Challenge.pw_tiedsteps_k03_whole_values_of_terms.main.file : Str) == ("/claim/cut.py" : Str)) = true := by decide +kernel
theorem top_ok : (PySem.Challenge.pw_tiedsteps_k03_whole_values_of_terms.main.scope.names.lookup ("super" : Str)).isSome = false := by decide +kernel
end TS
open PySem PySem.W PyProof.Rows
set_option maxRecDepth 100000 in
set_option maxHeartbeats 0 in
theorem PySem.Challenge.cw_tiedsteps_k03_whole_values_of_terms_holds : PySem.Challenge.rw_tiedsteps_k03_whole_values_of_terms.Holds := by
  w_on; o_law; k_head; (case hw => w_witness2)
  k_fill
  refine TS.walkG (k := 15) (l := PySem.Challenge.rw_tiedsteps_k03_whole_values_of_terms) rfl rfl ⟨rfl, by decide, by decide⟩ (fun w h Y => PySem.W.kIn_of Y) ?F
  case F =>
    intro w mg fa h KX G hmg
    refine' TS.errC_mk (P := PySem.Challenge.pw_tiedsteps_k03_whole_values_of_terms) (w := w) (x := "NoTerm") (arg := "value") (qual := "NoTerm.__init__") KX G TS.valBase TS.ao_value TS.file_ok TS.top_ok ?yhn ?yhtk ?yho ?ysu ?yaC ?yxL ?yxT ?ysa ?yexC ?ytyC ?ykC ?yga ?ygg ?yhd ?yhc ?yha ?ymo ?yno ?yiC ?ytI ?ylk ?ylc ?yfl ?yle ?yms ?ycd ?ysi ?ysB ?ySO ?ypb ?_
    (case yhn => k_is); (case yhtk => k_is); (case yho => k_is); (case ysu => k_is); (case yaC => k_is); (case yxL => k_is); (case yxT => rfl); (case ysa => k_is)
    (case yexC => k_is); (case ytyC => k_is); (case ykC => k_is); (case yga => k_is); (case ygg => k_is); (case yhd => k_is); (case yhc => k_is); (case yha => k_is)
    (case ymo => k_is); (case yno => k_is); (case yiC => k_is); (case ytI => k_is); (case ylk => k_is); (case ylc => k_is); (case yfl => rfl); (case yle => k_is)
    (case yms => k_is); (case ycd => k_is); (case ysi => kernel_rfl); (case ysB => k_is); (case ySO => exact fun env => ⟨_, rfl⟩); (case ypb => exact fun _ _ => rfl)
    intro EN
    refine' TS.errC_mk (P := PySem.Challenge.pw_tiedsteps_k03_whole_values_of_terms) (w := w) (x := "NoName") (arg := "who") (qual := "NoName.__init__") KX G TS.keyBase TS.ao_who TS.file_ok TS.top_ok ?yhn ?yhtk ?yho ?ysu ?yaC ?yxL ?yxT ?ysa ?yexC ?ytyC ?ykC ?yga ?ygg ?yhd ?yhc ?yha ?ymo ?yno ?yiC ?ytI ?ylk ?ylc ?yfl ?yle ?yms ?ycd ?ysi ?ysB ?ySO ?ypb ?_
    (case yhn => k_is); (case yhtk => k_is); (case yho => k_is); (case ysu => k_is); (case yaC => k_is); (case yxL => k_is); (case yxT => rfl); (case ysa => k_is)
    (case yexC => k_is); (case ytyC => k_is); (case ykC => k_is); (case yga => k_is); (case ygg => k_is); (case yhd => k_is); (case yhc => k_is); (case yha => k_is)
    (case ymo => k_is); (case yno => k_is); (case yiC => k_is); (case ytI => k_is); (case ylk => k_is); (case ylc => k_is); (case yfl => rfl); (case yle => k_is)
    (case yms => k_is); (case ycd => k_is); (case ysi => kernel_rfl); (case ysB => k_is); (case ySO => exact fun env => ⟨_, rfl⟩); (case ypb => exact fun _ _ => rfl)
    intro ENN
    refine' TS.all_mk (l := PySem.Challenge.rw_tiedsteps_k03_whole_values_of_terms) KX G hmg EN ENN ?yaC ?ypg ?yhd ?ypo ?ysa ?ymk ?ykc ?yn1 ?yn2 ?yn3 ?yn4 ?yn5 ?yn6 ?yn7 ?yha ?yhn ?yhtk ?yhm ?ykC ?ykStr ?ykInt ?ykTup ?ykCS ?yex ?yaTE ?yexW ?yexNW ?ykKE ?ykWT ?ya_num ?yl_num ?yc_num ?yk_num ?ya_asc ?yl_asc ?yc_asc ?yk_asc ?ya_word ?yl_word ?yc_word ?yk_word ?ya_choice ?yl_choice ?yc_choice ?yk_choice ?ya_tree ?yl_tree ?yc_tree ?yk_tree ?ya_ttext ?yl_ttext ?yc_ttext ?yk_ttext ?ya_treeof ?yl_treeof ?yc_treeof ?yk_treeof ?ya_need ?yl_need ?yc_need ?yk_need ?ya_text ?yl_text ?yc_text ?yk_text ?ya_depth ?yl_depth ?yc_depth ?yk_depth ?ya_kind ?yl_kind ?yc_kind ?yk_kind ?ya_leaves ?yl_leaves ?yc_leaves ?yk_leaves ?ya_pool ?yl_pool ?yc_pool ?yk_pool ?ya_take ?yl_take ?yc_take ?yk_take ?ya_one ?yl_one ?yc_one ?yk_one ?ya_words ?yl_words ?yc_words ?yk_words ?ya_ltree ?yl_ltree ?yc_ltree ?yk_ltree ?ya_ltext ?yl_ltext ?yc_ltext ?yk_ltext ?ya_value ?yl_value ?yc_value ?yk_value ?ya_part ?yl_part ?yc_part ?yk_part ?ya_lleaves ?yl_lleaves ?yc_lleaves ?yk_lleaves ?ya_lwords ?yl_lwords ?yc_lwords ?yk_lwords ?ya_ldigits ?yl_ldigits ?yc_ldigits ?yk_ldigits ?ya_lworth ?yl_lworth ?yc_lworth ?yk_lworth ?ya_told ?yl_told ?yc_told ?yk_told ?ya_due ?yl_due ?yc_due ?yk_due ?ya_moved ?yl_moved ?yc_moved ?yk_moved ?ya_law ?yl_law ?yc_law ?yk_law ?ya_tinit ?yi_tinit ?yl_tinit ?yc_tinit ?yk_tinit ?ya_tcall ?yi_tcall ?yl_tcall ?yc_tcall ?yk_tcall ?ya_tworth ?yi_tworth ?yl_tworth ?yc_tworth ?yk_tworth ?yz_isinstance ?yz_tuple ?yz_str ?yz_int ?yz_bool ?yz_max ?yz_set ?yz_sorted ?yz_len ?yz_any ?yz_range ?yz_list ?yz_min ?yz_enumerate ?yz_repr ?yz_dict ?yz_KeyError ?yv_LETTERS ?yv_DIGITS ?yv_PART_SIGNS ?yv_MOST_LETTERS ?yv_MOST_DEPTH ?yv_MOST_CONSTANT
    (case yaC => k_is); (case ypg => k_is); (case yhd => k_is); (case ypo => k_is); (case ysa => k_is); (case ymk => k_is)
    (case ykc => k_is); (case yn1 => k_is); (case yn2 => k_is); (case yn3 => k_is); (case yn4 => k_is); (case yn5 => k_is)
    (case yn6 => k_is); (case yn7 => k_is); (case yha => k_is); (case yhn => k_is); (case yhtk => k_is); (case yhm => k_is)
    (case ykC => kernel_rfl); (case ykStr => kernel_rfl); (case ykInt => kernel_rfl); (case ykTup => kernel_rfl); (case ykCS => kernel_rfl); (case yex => kernel_rfl)
    (case yaTE => k_is); (case yexW => kernel_rfl); (case yexNW => kernel_rfl); (case ykKE => kernel_rfl); (case ykWT => kernel_rfl); (case ya_num => k_is)
    (case yl_num => k_is); (case yc_num => k_is); (case yk_num => k_is); (case ya_asc => k_is); (case yl_asc => k_is); (case yc_asc => k_is)
    (case yk_asc => k_is); (case ya_word => k_is); (case yl_word => k_is); (case yc_word => k_is); (case yk_word => k_is); (case ya_choice => k_is)
    (case yl_choice => k_is); (case yc_choice => k_is); (case yk_choice => k_is); (case ya_tree => k_is); (case yl_tree => k_is); (case yc_tree => k_is)
    (case yk_tree => k_is); (case ya_ttext => k_is); (case yl_ttext => k_is); (case yc_ttext => k_is); (case yk_ttext => k_is); (case ya_treeof => k_is)
    (case yl_treeof => k_is); (case yc_treeof => k_is); (case yk_treeof => k_is); (case ya_need => k_is); (case yl_need => k_is); (case yc_need => k_is)
    (case yk_need => k_is); (case ya_text => k_is); (case yl_text => k_is); (case yc_text => k_is); (case yk_text => k_is); (case ya_depth => k_is)
    (case yl_depth => k_is); (case yc_depth => k_is); (case yk_depth => k_is); (case ya_kind => k_is); (case yl_kind => k_is); (case yc_kind => k_is)
    (case yk_kind => k_is); (case ya_leaves => k_is); (case yl_leaves => k_is); (case yc_leaves => k_is); (case yk_leaves => k_is); (case ya_pool => k_is)
    (case yl_pool => k_is); (case yc_pool => k_is); (case yk_pool => k_is); (case ya_take => k_is); (case yl_take => k_is); (case yc_take => k_is)
    (case yk_take => k_is); (case ya_one => k_is); (case yl_one => k_is); (case yc_one => k_is); (case yk_one => k_is); (case ya_words => k_is)
    (case yl_words => k_is); (case yc_words => k_is); (case yk_words => k_is); (case ya_ltree => k_is); (case yl_ltree => k_is); (case yc_ltree => k_is)
    (case yk_ltree => k_is); (case ya_ltext => k_is); (case yl_ltext => k_is); (case yc_ltext => k_is); (case yk_ltext => k_is); (case ya_value => k_is)
    (case yl_value => k_is); (case yc_value => k_is); (case yk_value => k_is); (case ya_part => k_is); (case yl_part => k_is); (case yc_part => k_is)
    (case yk_part => k_is); (case ya_lleaves => k_is); (case yl_lleaves => k_is); (case yc_lleaves => k_is); (case yk_lleaves => k_is); (case ya_lwords => k_is)
    (case yl_lwords => k_is); (case yc_lwords => k_is); (case yk_lwords => k_is); (case ya_ldigits => k_is); (case yl_ldigits => k_is); (case yc_ldigits => k_is)
    (case yk_ldigits => k_is); (case ya_lworth => k_is); (case yl_lworth => k_is); (case yc_lworth => k_is); (case yk_lworth => k_is); (case ya_told => k_is)
    (case yl_told => k_is); (case yc_told => k_is); (case yk_told => k_is); (case ya_due => k_is); (case yl_due => k_is); (case yc_due => k_is)
    (case yk_due => k_is); (case ya_moved => k_is); (case yl_moved => k_is); (case yc_moved => k_is); (case yk_moved => k_is); (case ya_law => k_is)
    (case yl_law => k_is); (case yc_law => k_is); (case yk_law => k_is); (case ya_tinit => k_is); (case yi_tinit => k_is); (case yl_tinit => k_is)
    (case yc_tinit => k_is); (case yk_tinit => k_is); (case ya_tcall => k_is); (case yi_tcall => k_is); (case yl_tcall => k_is); (case yc_tcall => k_is)
    (case yk_tcall => k_is); (case ya_tworth => k_is); (case yi_tworth => k_is); (case yl_tworth => k_is); (case yc_tworth => k_is); (case yk_tworth => k_is)
    (case yz_isinstance => k_is); (case yz_tuple => k_is); (case yz_str => k_is); (case yz_int => k_is); (case yz_bool => k_is); (case yz_max => k_is)
    (case yz_set => k_is); (case yz_sorted => k_is); (case yz_len => k_is); (case yz_any => k_is); (case yz_range => k_is); (case yz_list => k_is)
    (case yz_min => k_is); (case yz_enumerate => k_is); (case yz_repr => k_is); (case yz_dict => k_is); (case yz_KeyError => k_is); (case yv_LETTERS => k_is)
    (case yv_DIGITS => k_is); (case yv_PART_SIGNS => k_is); (case yv_MOST_LETTERS => k_is); (case yv_MOST_DEPTH => k_is); (case yv_MOST_CONSTANT => k_is)
#print axioms PySem.Challenge.cw_tiedsteps_k03_whole_values_of_terms_holds
