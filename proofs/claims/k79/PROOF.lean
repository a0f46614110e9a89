import PyProof.Rows.All
import Wide.All
import OpenK.AllK
import Wide.FinOn
import HandS.Head2
import HandS.ForMost
import HandS.Set
import HandS.Strs
import HandS.IsInst
import HandS.FStr
import HandS.TryOnly
import HandS.RaiseMore
import HandS.OwnEq
import HandS.More
import KE.KCallOwn
import OpenK.KOps
import PyProof.InstNe
import HandS.Property
import HandS.Evl
import HandS.Walk
import HandS.AnyAll
import HandS.ForExc
import HandS.ClsMeth
import HandS.CallSlots
import HandS.Defaults
import HandS.MakeKwOnly
import HandS.Text
import HandS.ForDict
import HandS.Iter
import HandS.DictComp
import HandS.Star
import HandS.MethStar
import HandS.ExcInit
import KE.KExcSuper
import HandS.ExcField
import HandS.Deep
import KE.KExcIs
import HandS.ExcOwn
import HandS.TupAny
import PySem.Challenge.RW_tiedsteps_k79_delays_refused
set_option Elab.async false
set_option linter.all false
set_option maxRecDepth 100000
set_option maxHeartbeats 4000000
namespace TS
open PySem PySem.W
def loose0 : List PySem.Str := [("_wall" : PySem.Str), ("__name__" : PySem.Str), ("TiedError" : PySem.Str), ("NoTerm" : PySem.Str), ("NoDeed" : PySem.Str), ("NoProcess" : PySem.Str), ("NoProgram" : PySem.Str), ("NoPattern" : PySem.Str), ("NoStart" : PySem.Str), ("NoNumber" : PySem.Str), ("NoPlace" : PySem.Str), ("TooMany" : PySem.Str), ("NoName" : PySem.Str), ("LETTERS" : PySem.Str), ("MOST_LETTERS" : PySem.Str), ("is_number" : PySem.Str), ("is_index" : PySem.Str), ("is_word" : PySem.Str), ("is_row" : PySem.Str), ("is_short_row" : PySem.Str), ("are_numbers" : PySem.Str), ("are_unlike" : PySem.Str), ("are_unlike_words" : PySem.Str), ("ascending" : PySem.Str), ("check_most" : PySem.Str), ("Web" : PySem.Str), ("Graph" : PySem.Str), ("DIGITS" : PySem.Str), ("MOST_CONSTANT" : PySem.Str), ("MOST_DEPTH" : PySem.Str)]
def loose1 : List PySem.Str := [("PART_SIGNS" : PySem.Str), ("_word_end" : PySem.Str), ("_choice_at" : PySem.Str), ("_tree_at" : PySem.Str), ("_tree_of_text" : PySem.Str), ("_tree_of" : PySem.Str), ("_needed_tree" : PySem.Str), ("_text_of" : PySem.Str), ("_depth_of" : PySem.Str), ("_kind_of" : PySem.Str), ("_leaves_of" : PySem.Str), ("_value_of" : PySem.Str), ("Term" : PySem.Str), ("AT_ONCE" : PySem.Str), ("AT_END" : PySem.Str), ("TURN" : PySem.Str), ("MOST_WAITS" : PySem.Str), ("MOST_DEEDS" : PySem.Str), ("Deed" : PySem.Str), ("_deed_of" : PySem.Str), ("_deeds_of" : PySem.Str), ("Process" : PySem.Str), ("possible" : PySem.Str), ("_with_pairs" : PySem.Str), ("Player" : PySem.Str), ("are_values" : PySem.Str), ("are_changed" : PySem.Str), ("start_state" : PySem.Str), ("_next_number" : PySem.Str), ("is_pattern" : PySem.Str)]
def loose2 : List PySem.Str := [("_values_by_number" : PySem.Str), ("values_beside" : PySem.Str), ("values_of" : PySem.Str), ("all_patterns" : PySem.Str), ("patterns" : PySem.Str), ("PARTS" : PySem.Str), ("RINGS" : PySem.Str), ("MOST_KEPT" : PySem.Str), ("all_changed" : PySem.Str), ("starts" : PySem.Str), ("start_graphs" : PySem.Str), ("_show" : PySem.Str), ("looked" : PySem.Str), ("_faults_in" : PySem.Str), ("faults" : PySem.Str), ("is_sole" : PySem.Str), ("helps" : PySem.Str), ("MOST_PROCESSES" : PySem.Str), ("MOST_INPUTS" : PySem.Str), ("MOST_VARIABLES" : PySem.Str), ("MOST_CONSTANTS" : PySem.Str), ("MOST_AT_ONCE" : PySem.Str), ("_are_processes" : PySem.Str), ("_are_inputs" : PySem.Str), ("_variables_of" : PySem.Str), ("_constants_of" : PySem.Str), ("_places_of" : PySem.Str), ("_wrong_part" : PySem.Str), ("_is_place" : PySem.Str), ("_with_delays" : PySem.Str)]
def loose3 : List PySem.Str := [("Program" : PySem.Str), ("_law_pool" : PySem.Str), ("_law_take" : PySem.Str), ("_law_one" : PySem.Str), ("_law_turned" : PySem.Str), ("_law_words" : PySem.Str), ("_law_tree" : PySem.Str), ("_law_tree_text" : PySem.Str), ("_law_deed_text" : PySem.Str), ("_law_deeds_drawn" : PySem.Str), ("_law_plain" : PySem.Str), ("_law_less_at_once" : PySem.Str), ("_law_names" : PySem.Str), ("_law_made_process" : PySem.Str), ("_law_made" : PySem.Str), ("_law_places" : PySem.Str), ("_law_refused" : PySem.Str)]
def looseN : List PySem.Str := loose0 ++ loose1 ++ loose2 ++ loose3
abbrev viewQ : PySem.Program := PySem.W.view (PySem.W.OpenLaw.row PySem.Challenge.rw_tiedsteps_k79_delays_refused).prog [118]
theorem ho_k {K : PySem.Params → PySem.W.Frag} {as : List Addr} {e : ∀ P, as = (K P).map (·.1)} (s : PySem.W.SharedT) : as.map (HandSHeadRun.getT s) = (PySem.W.kHook K as e).obs s.abs :=
  congrArg (fun f => as.map f) (funext fun a => HandSHeadRun.getT_eq s a)
end TS
section
local macro_rules | `(tactic| o_head $H) => `(tactic| refine HandSHeadRun.head_any (r := PySem.W.OpenLaw.row PySem.Challenge.rw_tiedsteps_k79_delays_refused) (q := TS.viewQ) (H := $H) (M := 20000) (loose := TS.looseN) (kwd := []) (fun s => TS.ho_k s) (by kernel_rfl) (fun s => by kernel_rfl) (fun w os => by kernel_rfl) (by rfl) (by rfl) (by rfl) (by rfl) (by first | assumption | decide +kernel) (by decide +kernel) ⟨rfl, rfl, rfl, rfl, rfl, by decide +kernel⟩ ?hw ?hc)
open PySem PySem.W PyProof.Rows
set_option maxHeartbeats 0 in
open_top TS.headK for PySem.Challenge.rw_tiedsteps_k79_delays_refused
end
namespace TS
open PySem PySem.Spec PyProof.Rows L2
/-! sets of keys of one kind, with what is needed to walk them: set(xs), sorted(set) -/
section
variable {P : Program} {w : World} {κ : Type} [DecidableEq κ] {kd : KeyKind P w κ}
/-- an entry that holds the key k -/
def Holds1 (kd : KeyKind P w κ) (e : Int × Value) (k : κ) : Prop := kd.is k e.2 = true ∧ e.1 = kd.hash k ∧ e.2.scannable = true
theorem paired_perm {α β : Type} {R : α → β → Prop} : ∀ {l l' : List α}, l'.Perm l → ∀ {js : List β}, Paired R l js → ∃ js', Paired R l' js' ∧ js'.Perm js := by
  intro l l' p
  induction p with
  | nil => exact fun {js} h => ⟨js, h, .refl _⟩
  | cons x _ ih =>
    intro js h
    cases h with
    | cons h1 h2 =>
      obtain ⟨js', g, q⟩ := ih h2
      exact ⟨_ :: js', .cons h1 g, q.cons _⟩
  | swap x y l =>
    intro js h
    cases h with
    | cons h1 h2 =>
      cases h2 with
      | cons h3 h4 => exact ⟨_, .cons h3 (.cons h1 h4), .swap _ _ _⟩
  | trans _ _ ih1 ih2 =>
    intro js h
    obtain ⟨js1, g1, q1⟩ := ih2 h
    obtain ⟨js2, g2, q2⟩ := ih1 g1
    exact ⟨js2, g2, q2.trans q1⟩
theorem paired_elems : ∀ {l : List (Int × Value)} {js : List κ}, Paired (Holds1 kd) l js → ElemsOf kd l
  | _, _, .nil => fun e he => by cases he
  | _, _, .cons h r => fun e he => by
    rcases List.mem_cons.mp he with rfl | he
    · exact ⟨⟨_, h.1, h.2.1⟩, h.2.2⟩
    · exact paired_elems r e he
theorem paired_mem {k : κ} : ∀ {l : List (Int × Value)} {js : List κ}, Paired (Holds1 kd) l js → (k ∈ js ↔ ∃ e ∈ l, kd.is k e.2 = true)
  | _, _, .nil => by simp
  | _, _, .cons (a := e) (b := j) h r => by
    rw [List.mem_cons, paired_mem r]
    constructor
    · rintro (rfl | ⟨e', he, z⟩)
      · exact ⟨e, List.mem_cons_self, h.1⟩
      · exact ⟨e', List.mem_cons_of_mem _ he, z⟩
    · rintro ⟨e', he, z⟩
      rcases List.mem_cons.mp he with rfl | he
      · exact .inl (kd.inj _ _ _ z h.1)
      · exact .inr ⟨e', he, z⟩
/-- a set of the keys ks at a -/
def SetX (kd : KeyKind P w κ) (h : Heap) (a : Addr) (ks : List κ) : Prop :=
  ∃ o es ep t js, h.get? a = some o ∧ o.ExactSet ∧ o.data = .set es ep t ∧ Paired (Holds1 kd) es.toList js ∧ js.Perm ks ∧ ks.Nodup ∧ es.size < scanBound ∧ t.fits es.size = true ∧ Ris t.place.toList ∧
    (w.params.followText "set-order" = true ∨ t.led = true)
theorem SetX.keep {h h' : Heap} {a : Addr} {ks : List κ} (R : SetX kd h a ks) (z : ∀ o, h.get? a = some o → h'.get? a = some o) : SetX kd h' a ks := by
  obtain ⟨o, es, ep, t, js, ho, r⟩ := R
  exact ⟨o, es, ep, t, js, z o ho, r⟩
theorem paired_len {α β : Type} {R : α → β → Prop} : ∀ {l : List α} {js : List β}, Paired R l js → l.length = js.length
  | _, _, .nil => rfl
  | _, _, .cons _ r => by rw [List.length_cons, List.length_cons, paired_len r]
section
variable {A : Around} {E : Value → Shared → Prop} {s : Shared} {a : Addr} {ks : List κ}
theorem setX_put {gw : Bool → Sem Unit} (hg : ∀ (b : Bool) (s1 : Shared) (Q' : Unit → Shared → Prop), Q' () s1 → wpAny (model P w) A (gw b) Q' E s1)
    {o : Obj} {es : Array (Int × Value)} {ep : Nat} {t : SetTable} (ho : s.heap.get? a = some o) (hex : o.ExactSet) (hd : o.data = .set es ep t)
    {es1 : Array (Int × Value)} {t2 : SetTable} {js1 : List κ} (pj : Paired (Holds1 kd) es1.toList js1) (pk : js1.Perm ks) (nd : ks.Nodup)
    (hb1 : es1.size < scanBound) (hf2 : t2.fits es1.size = true) (hr : Ris t2.place.toList) (hl : w.params.followText "set-order" = true ∨ t2.led = true) {wasDummy : Bool} {R : Option Bool → Shared → Prop}
    (hR : ∀ h', Heap.SameBut a s.heap h' → SetX kd h' a ks → R (some true) { s with heap := h' }) :
    wpAny (model P w) A (do
        storeSet a es1 t2
        if (!wasDummy && t2.tooFull) = true then do
            gw (relayAll t2 es1 (SetTable.grown es1.size)).2.2
            storeSet a (relayAll t2 es1 (SetTable.grown es1.size)).1 (relayAll t2 es1 (SetTable.grown es1.size)).2.1
            pure (some true)
          else pure (some true)) R E s := by
  refine wpAny_bind (wpAny_storeSet_of ho hd ?_ (fits_of_scanBound hb1))
  have ho1 := L2.store_at (es' := es1) (t' := t2) ho hd
  have same1 := Heap.SameBut.update s.heap a (Obj.putSet es1 t2)
  split
  · have pm := relayAll_perm t2 es1 (SetTable.grown es1.size)
    have g1 := relayAll_fits t2 es1 (SetTable.grown es1.size)
    have g2 := relayAll_ris t2 es1 (SetTable.grown es1.size)
    have g3 := relayAll_led t2 es1 (SetTable.grown es1.size)
    generalize relayAll t2 es1 (SetTable.grown es1.size) = Z at pm g1 g2 g3 ⊢
    obtain ⟨es2, t3, gave⟩ := Z
    dsimp only at pm g1 g2 g3 ⊢
    have hsz : es2.size = es1.size := by
      rw [← Array.length_toList, pm.length_eq, Array.length_toList]
    have hb2 : es2.size < scanBound := by
      rw [hsz]
      exact hb1
    refine wpAny_bind (hg _ _ _ ?_)
    refine wpAny_bind (wpAny_storeSet_of ho1 rfl ?_ (fits_of_scanBound hb2))
    have ho2 := L2.store_at (es' := es2) (t' := t3) ho1 rfl
    obtain ⟨js2, pj2, pk2⟩ := paired_perm pm pj
    refine wpAny_pure (hR _ (same1.trans (Heap.SameBut.update _ a _)) ?_)
    exact ⟨_, es2, _, t3, js2, ho2, hex, rfl, pj2, pk2.trans pk, nd, hb2, g1, g2, hl.imp id fun z => by
      rw [g3]
      exact z⟩
  · exact wpAny_pure (hR _ same1 ⟨_, es1, _, t2, js1, ho1, hex, rfl, pj, pk, nd, hb1, hf2, hr, hl⟩)
/-- one key put in -/
theorem setX_add {k : κ} {x : Value} {Q : Bool → Shared → Prop} (hx : kd.is k x = true) (hsc : x.scannable = true) (R : SetX kd s.heap a ks) (room : ks.length + 1 < scanBound)
    (hQ : ∀ b h', Heap.SameBut a s.heap h' → SetX kd h' a (if k ∈ ks then ks else k :: ks) → Q b { s with heap := h' }) :
    wpAny (model P w) A (setAddHashed a x (kd.hash k)) Q E s := by
  obtain ⟨o, es, ep, t, js, ho, hex, hd, pj, pk, nd, hb, hf, hr, hl⟩ := R
  have hel : ElemsOf kd es.toList := paired_elems pj
  have hn : es.size = ks.length := by
    rw [← Array.length_toList, paired_len pj, pk.length_eq]
  unfold setAddHashed setAddHashedIn
  refine wpAny_holding (wpAny_bind (wpAny_setState_of ho hd hf ?_))
  dsimp only
  rw [byScan_of hsc hb hel]
  simp only [↓reduceIte]
  unfold setAddByScan
  refine wpAny_bind ?_
  refine wpAny_bind (wpAny_rule ?_)
  refine wpAny_bind (wpAny_setScan_of hx ho hd hf hel ?_)
  cases hfi : List.findIdx? (fun e => kd.is k e.2) es.toList with
  | some j =>
    dsimp only
    obtain ⟨hj, z, _⟩ := List.findIdx?_eq_some_iff_getElem.mp hfi
    have hk : k ∈ ks := pk.mem_iff.mp ((paired_mem pj).mpr ⟨es.toList[j], List.getElem_mem hj, z⟩)
    refine wpAny_pure (wpAny_pure ?_)
    refine hQ _ s.heap (Heap.SameBut.refl a s.heap) ?_
    rw [if_pos hk]
    exact ⟨o, es, ep, t, js, ho, hex, hd, pj, pk, nd, hb, hf, hr, hl⟩
  | none =>
    dsimp only
    have hk : k ∉ ks := fun z => by
      obtain ⟨e, he, y⟩ := (paired_mem pj).mp (pk.mem_iff.mpr z)
      have c := List.findIdx?_eq_none_iff.mp hfi e he
      rw [y] at c
      cases c
    have giv : ∀ (b : Bool) {s1 : Shared} {Q' : Unit → Shared → Prop}, Q' () s1 → wpAny (model P w) A (match b with | true => rule "set.scan.the-table-gave-way" | false => pure ()) Q' E s1 := fun b s1 Q' z => by
      cases b
      · exact wpAny_pure z
      · exact wpAny_rule z
    have pm := layNew_perm t es (kd.hash k) x
    have f1 := layNew_fits t es (kd.hash k) x
    have r1 := layNew_ris t es (kd.hash k) x hr
    have l1 := layNew_led t es (kd.hash k) x
    generalize layNew t es (kd.hash k) x = Z at pm f1 r1 l1 ⊢
    obtain ⟨es1, t1, wasDummy, gave⟩ := Z
    dsimp only at pm f1 r1 l1 ⊢
    rw [Array.toList_push] at pm
    have pc : es1.toList.Perm ((kd.hash k, x) :: es.toList) := pm.trans (List.perm_append_singleton _ _)
    obtain ⟨js1, pj1, pk1⟩ := paired_perm pc (js := k :: js) (.cons ⟨hx, rfl, hsc⟩ pj)
    have pk2 : js1.Perm (k :: ks) := pk1.trans (pk.cons k)
    have nd1 : (k :: ks).Nodup := List.nodup_cons.mpr ⟨hk, nd⟩
    have hb1 : es1.size < scanBound := by
      rw [← Array.length_toList, pc.length_eq, List.length_cons, Array.length_toList, hn]
      exact room
    have led : w.params.followText "set-order" = true ∨ t1.led = true := hl.imp id fun z => by
      rw [l1]
      exact z
    have fin : ∀ b h', Heap.SameBut a s.heap h' → SetX kd h' a (k :: ks) → Q b { s with heap := h' } := fun b h' sb r => by
      have z := hQ b h' sb
      rw [if_neg hk] at z
      exact z r
    refine wpAny_bind (giv _ ?_)
    split
    · refine wpAny_bind ?_
      rw [hashByValue_scannable 8 hsc]
      refine wpAny_pure ?_
      refine setX_put ?_ ho hex hd pj1 pk2 nd1 hb1 ?_ ?_ ?_ ?_
      · exact fun b s1 Q' z => giv b z
      · first | (split <;> first | exact f1 | exact SetTable.fits_plain_off f1) | exact f1
      · first | (split <;> exact r1) | exact r1
      · first | (split <;> exact led) | exact led
      · intro h' sb r
        dsimp only
        exact wpAny_pure (fin _ h' sb r)
    · refine wpAny_bind (wpAny_pure ?_)
      simp only [↓reduceIte]
      refine setX_put ?_ ho hex hd pj1 pk2 nd1 hb1 f1 r1 led ?_
      · exact fun b s1 Q' z => giv b z
      · intro h' sb r
        dsimp only
        exact wpAny_pure (fin _ h' sb r)
end
/-- a key more, if it is not there -/
def put1 (ks : List κ) (k : κ) : List κ := if k ∈ ks then ks else k :: ks
theorem put1_len (ks : List κ) (k : κ) : (put1 ks k).length ≤ ks.length + 1 := by
  unfold put1
  split
  · exact Nat.le_succ _
  · exact Nat.le_refl _
/-- the keys of a list, each once -/
def once (l : List κ) : List κ := l.foldl put1 []
theorem once_snoc (l : List κ) (k : κ) : once (l ++ [k]) = put1 (once l) k := by
  unfold once
  rw [List.foldl_append]
  rfl
theorem fold_len (l : List κ) : ∀ acc : List κ, (l.foldl put1 acc).length ≤ acc.length + l.length := by
  induction l with
  | nil => exact fun acc => Nat.le_refl _
  | cons x l ih =>
    intro acc
    have z := ih (put1 acc x)
    have y := put1_len acc x
    rw [List.foldl_cons, List.length_cons]
    omega
theorem once_len (l : List κ) : (once l).length ≤ l.length := by
  have z := fold_len l []
  simpa [once] using z
theorem fold_mem (l : List κ) (k : κ) : ∀ acc : List κ, k ∈ l.foldl put1 acc ↔ k ∈ acc ∨ k ∈ l := by
  induction l with
  | nil => exact fun acc => by simp
  | cons x l ih =>
    intro acc
    rw [List.foldl_cons, ih, List.mem_cons]
    unfold put1
    split
    · rename_i hx
      constructor
      · rintro (z | z)
        · exact .inl z
        · exact .inr (.inr z)
      · rintro (z | rfl | z)
        · exact .inl z
        · exact .inl hx
        · exact .inr z
    · rw [List.mem_cons]
      constructor
      · rintro ((z | z) | z)
        · exact .inr (.inl z)
        · exact .inl z
        · exact .inr (.inr z)
      · rintro (z | z | z)
        · exact .inl (.inr z)
        · exact .inl (.inl z)
        · exact .inr z
theorem once_mem (l : List κ) (k : κ) : k ∈ once l ↔ k ∈ l := by
  unfold once
  rw [fold_mem]
  simp
section
variable {A : Around} {R : Result → Shared → Prop} {I : Addr} {fp wr : List Addr} {G : Array GenState → Array GenState → Prop} {n : Nat} {Pv : Nat → Value → Prop} {St : Nat → Shared → Prop}
theorem loopX (W : WalksS P w A.in1 I fp wr G n Pv St) (S : Addr) (hSf : S ∉ fp) (keys : List κ) (hkl : keys.length = n) (hval : ∀ i v, Pv i v → ∃ k, keys[i]? = some k ∧ kd.is k v = true ∧ v.scannable = true) (hb : n + 1 < scanBound) :
    ∀ (m i : Nat) (s : Shared), n - i = m → i ≤ n → St i s → SetX kd s.heap S (once (keys.take i)) →
      (∀ s', Moved (S :: wr) G s s' → SetX kd s'.heap S (once keys) → R (.ok (.ret .none)) s') →
      codeAny (model P w) A (.builtin "set.update.loop" ⟨[.ref S, .ref I], []⟩) R s := by
  have hSw : S ∉ wr := fun z => hSf (W.sub _ z)
  have more : ∀ b ∈ wr, b ∈ S :: wr := fun b z => List.mem_cons_of_mem _ z
  intro m
  induction m with
  | zero =>
    intro i s hm hi hst hS hR
    obtain rfl : i = n := by omega
    refine codeAny_builtin PyProof.Rows.F.entry_set_update_loop ?_
    rw [Around.under_plainId PyProof.Rows.F.plain_set_update_loop _]
    show wpAny _ A.in1 (pyNext (.ref I) >>= _) _ _ s
    refine wpAny_bind (W.done s _ _ hst fun s' mv => ?_)
    show wpAny _ A.in1 (ret Value.none) _ _ s'
    refine wpAny_pure (hR s' (mv.mono more) ?_)
    rw [List.take_of_length_le (by omega)] at hS
    exact hS.keep fun o z => mv.heap S _ hSw z
  | succ m ih =>
    intro i s hm hi hst hS hR
    have hlt : i < n := by omega
    refine codeAny_builtin PyProof.Rows.F.entry_set_update_loop ?_
    rw [Around.under_plainId PyProof.Rows.F.plain_set_update_loop _]
    show wpAny _ A.in1 (pyNext (.ref I) >>= _) _ _ s
    refine wpAny_bind (W.item i s _ _ hlt hst fun v s' hP hst' mv => ?_)
    obtain ⟨k, hk, his, hsc⟩ := hval i v hP
    have hS' : SetX kd s'.heap S (once (keys.take i)) := hS.keep fun o z => mv.heap S _ hSw z
    show wpAny _ A.in1 (holding [v] (setAdd S v) >>= _) _ _ s'
    refine wpAny_bind (wpAny_holding ?_)
    unfold setAdd
    refine wpAny_holding ?_
    refine wpAny_bind (kd.pyHash (k := k) his ?_)
    have room : (once (keys.take i)).length + 1 < scanBound := by
      have z := once_len (keys.take i)
      rw [List.length_take] at z
      omega
    refine setX_add (s := { s' with toks := s'.toks + 1 }) his hsc hS' room fun b h' sb S2 => ?_
    have S3 : SetX kd h' S (once (keys.take (i + 1))) := by
      rw [List.take_succ, hk]
      show SetX kd h' S (once (keys.take i ++ [k]))
      rw [once_snoc]
      exact S2
    refine wpAny_pure ⟨plainId_quiet PyProof.Rows.F.plain_set_update_loop _, ih (i + 1) _ (by omega) hlt (W.frame _ s' _ _ hst' (Nat.le_succ _) fun b hb o z => ?_) S3 fun s'' mv2 S4 => ?_⟩
    · rw [sb.2 b (fun y : b = S => hSf (by rw [← y]; exact hb))]
      exact z
    · refine hR s'' (Moved.trans W.gtrans ((mv.mono more).then_heap (Nat.le_succ _) fun b o hb z => ?_) mv2) S4
      rw [sb.2 b (fun y : b = S => hb (by rw [y]; exact List.mem_cons_self))]
      exact z
end
end
end TS
namespace TS
open PySem PySem.Spec PyProof.Rows L2
abbrev setObj (w : World) : Obj := { cls := .type "set", dict := none, data := .set #[] 0 (.fresh 0 0 (!w.params.followText "set-order")) }
section
variable {P : Program} {w : World} {A : Around} {E : Value → Shared → Prop} {s : Shared}
theorem new_led (a : Value) {Q1 : Value → Shared → Prop} (h : Q1 (.ref s.heap.objs.size) { s with heap := s.heap.push (setObj w) }) :
    codeAny (model P w) A (.call (.builtin "set.__new__") ⟨[.type "set", a], []⟩) (wants Q1 E) s := by
  refine codeAny_of_tree ?_
  show wpAny _ A.in1 (do checkBuiltinCall "set.__new__" ⟨[.type "set", a], []⟩; again (.builtin "set.__new__" ⟨[.type "set", a], []⟩)) _ _ s
  refine wpAny_bind (wpAny_of_eq (PySem.F.newCall_set_1 a) (wpAny_pure ⟨plainId_quiet F.plain_set_new _, codeAny_builtin F.entry_set_new ?_⟩))
  rw [Around.under_plainId F.plain_set_new _]
  unfold Builtin.«set.__new__» Builtin.Frozenset.newClass
  have ss := sub_set_self
  obtain ⟨hp, g, d, tk, os⟩ := s
  dsimp only
  wp_walk
  refine wpAny_askSetting (wpAny_pure ?_)
  dsimp only
  simp only [newObj]
  refine wpAny_bind (wpAny_alloc (wpAny_pure ?_))
  exact wpAny_pure h
variable {κ : Type} [DecidableEq κ] {kd : KeyKind P w κ}
theorem setX_new {h : Heap} {a : Addr} (z : h.get? a = some (setObj w)) : SetX kd h a [] :=
  ⟨_, #[], 0, _, [], z, ⟨rfl, rfl, rfl⟩, rfl, .nil, .refl _, List.nodup_nil, by decide, by rfl, List.Pairwise.nil, by
    show _ ∨ (!w.params.followText "set-order") = true
    cases w.params.followText "set-order"
    · exact .inr rfl
    · exact .inl rfl⟩
/-- set(xs), xs a list of such keys -/
theorem call_setX {l : Addr} {items : Array Value} {keys : List κ} {Q : Value → Shared → Prop} (hh : A.handled = none) (hl : s.heap.IsList l items) (hkl : keys.length = items.size)
    (hval : ∀ (i : Nat) v, items[i]? = some v → ∃ k, keys[i]? = some k ∧ kd.is k v = true ∧ v.scannable = true) (hb : items.size + 1 < scanBound)
    (h : ∀ (h' : Heap) (tk : Nat), SetX kd h' s.heap.objs.size (once keys) → (∀ b o, b < s.heap.objs.size → s.heap.get? b = some o → h'.get? b = some o) → Q (.ref s.heap.objs.size) { s with heap := h', toks := tk }) :
    wpAny (model P w) A (call (.type "set") [.ref l]) Q E s := by
  obtain ⟨c, tl, hmro⟩ := F.called_set.mro
  have d1 := F.called_set.made
  have d2 := F.called_set.sub
  refine wpAny_call (codeAny_of_tree ?_)
  show wpAny _ _ (callAny (.type "set") _) _ _ _
  refine wpAny_pure ⟨Code.quiet_builtin _ (by decide +kernel), codeAny_builtin F.entry_type_call ?_⟩
  rw [Around.under_plain (weight_type_call_type "set" [.ref l] []) rfl]
  have d3 := F.called_set.notType
  have d4 := F.called_set.canCreate
  have d5 := PySem.F.typeCall_set_1 (.ref l)
  repeat (any_goals (first | assumption | wp_step))
  refine codeAny_mono (new_led (.ref l) (E := E) (Q1 := fun obj s1 => obj = .ref s.heap.objs.size ∧ s1 = { s with heap := s.heap.push (setObj w) }) ⟨rfl, rfl⟩) fun r s1 hr => ?_
  cases r with
  | error er => exact hr
  | ok fl =>
    cases fl with
    | next => exact hr.elim
    | brk => exact hr.elim
    | cont => exact hr.elim
    | ret obj =>
      obtain ⟨rfl, rfl⟩ := hr
      have hS : (s.heap.push (setObj w)).get? s.heap.objs.size = some (setObj w) := Heap.get?_push_size _ rfl
      have hT : Shared.TypeIs { s with heap := s.heap.push (setObj w) } (.ref s.heap.objs.size) "set" := ⟨_, hS, rfl⟩
      have e1 := F.called_set.init.lookup
      have e2 := F.called_set.init.bind (.ref s.heap.objs.size)
      repeat (any_goals (first | assumption | wp_step))
      refine codeAny_mono (codeAny_call_builtin (R := wants (fun r s2 => r = .none ∧ ∃ h' tk, s2 = { s with heap := h', toks := tk } ∧ SetX kd h' s.heap.objs.size (once keys) ∧ (∀ b o, b < s.heap.objs.size → s.heap.get? b = some o → h'.get? b = some o)) E)
        F.called_set.init.plain F.entry_set_init (check_set_init_1 hT ?_)) fun r2 s2 hr2 => ?_
      · obtain ⟨ol, hol, hcl, nl, hdl⟩ := hl
        obtain ⟨ocls, odict, odata, oslots⟩ := ol
        simp only at hcl hdl
        subst hcl
        subst hdl
        have hol1 : (s.heap.push (setObj w)).get? l = some { cls := .type "list", dict := odict, data := .seq items nl, slots := oslots } := Heap.get?_push_of_some _ hol
        have e3 := PySem.F.sub_list_set
        have e4 := PySem.F.sub_list_frozenset
        have e5 : (Value.type "list" == Value.type "dict") = false := by decide
        have hl1 : (s.heap.push (setObj w)).IsList l items := ⟨_, hol1, rfl, nl, rfl⟩
        unfold Builtin.«set.__init__» noKeywords Builtin.Frozenset.updateFrom
        generalize hPI : pyIter = PI
        wp_walk
        subst hPI
        refine wpAny_pyIter_list hl1 ?_
        refine wpAny_bind (wpAny_runValue ?_)
        have lS : l < s.heap.objs.size := Heap.lt_size hol
        have hh3 : A.in1.in1.in1.handled = none := by simp [hh]
        have neI : l ≠ (s.heap.push (setObj w)).objs.size := by
          rw [Heap.size_push]
          exact Nat.ne_of_lt (Nat.lt_succ_of_lt lS)
        have hSf : s.heap.objs.size ∉ [(s.heap.push (setObj w)).objs.size, l] := by
          rw [Heap.size_push]
          simp only [List.mem_cons, List.mem_singleton, List.not_mem_nil, or_false, not_or]
          exact ⟨Nat.ne_of_lt (Nat.lt_succ_self _), Nat.ne_of_gt lS⟩
        refine loopX (kd := kd) ((Walks.list hh3 _ l neI items).toS) s.heap.objs.size hSf keys hkl hval hb (items.size - 0) 0 _ (by omega) (Nat.zero_le _)
          ⟨⟨_, Heap.get?_push_size _ rfl, rfl, rfl⟩, (hl1.push _)⟩ (setX_new (Heap.get?_push_of_some _ hS)) ?_
        intro s' mv S'
        obtain ⟨h', g', d', tk', os'⟩ := s'
        obtain rfl : g' = s.gens := mv.gens
        obtain rfl : d' = s.drawn := mv.drawn
        obtain rfl : os' = s.os := mv.os
        show wpAny _ _ _ _ _ _
        refine wpAny_pure ?_
        show wpAny _ _ (ret Value.none) _ _ _
        refine wpAny_pure ⟨rfl, h', tk', rfl, S', fun b o hlt z => ?_⟩
        have b1 : b ≠ s.heap.objs.size := Nat.ne_of_lt hlt
        have b2 : b ≠ (s.heap.push (setObj w)).objs.size := by
          rw [Heap.size_push]
          exact Nat.ne_of_lt (Nat.lt_succ_of_lt hlt)
        refine mv.heap b o ?_ (Heap.get?_push_of_some _ (Heap.get?_push_of_some _ z))
        simp only [List.mem_cons, List.mem_singleton, List.not_mem_nil, or_false, not_or]
        exact ⟨b1, b2⟩
      · cases r2 with
        | error er => exact hr2
        | ok fl2 =>
          cases fl2 with
          | next => exact hr2.elim
          | brk => exact hr2.elim
          | cont => exact hr2.elim
          | ret r =>
            obtain ⟨rfl, h', tk, rfl, S', k'⟩ := hr2
            repeat (any_goals (first | assumption | wp_step))
            exact h _ _ S' k'
end
end TS
namespace TS
open PySem PySem.Spec PyProof.Rows L2
section
variable {P : Program} {w : World}
theorem paired_strs : ∀ {l : List (Int × Value)} {js : List Str}, Paired (Holds1 (PySem.strKind P w)) l js → StrsAre (l.map (·.2)) js
  | _, _, .nil => .nil
  | _, _, .cons h r => by
    obtain ⟨t, e⟩ := Value.isStrOf_shape (show Value.isStrOf _ _ = true from h.1)
    rw [List.map_cons, e]
    exact .cons _ t (paired_strs r)
theorem paired_ints : ∀ {l : List (Int × Value)} {js : List Int}, Paired (Holds1 (PySem.intKind P w)) l js → IntsAre (l.map (·.2)) js
  | _, _, .nil => .nil
  | _, _, .cons h r => by
    obtain ⟨t, e⟩ := Value.isInt_shape (show Value.isInt _ _ = true from h.1)
    rw [List.map_cons, e]
    exact .cons _ t (paired_ints r)
theorem strs_perm : ∀ {vs us : List Value}, vs.Perm us → ∀ {ss : List Str}, StrsAre us ss → ∃ ss', StrsAre vs ss' ∧ ss'.Perm ss := by
  intro vs us p
  induction p with
  | nil => exact fun {ss} h => ⟨ss, h, .refl _⟩
  | cons x _ ih =>
    intro ss h
    cases h with
    | cons y t h2 =>
      obtain ⟨js', g, q⟩ := ih h2
      exact ⟨_ :: js', .cons y t g, q.cons _⟩
  | swap x y l =>
    intro ss h
    cases h with
    | cons a t h2 =>
      cases h2 with
      | cons b u h4 => exact ⟨_, .cons b u (.cons a t h4), .swap _ _ _⟩
  | trans _ _ ih1 ih2 =>
    intro ss h
    obtain ⟨js1, g1, q1⟩ := ih2 h
    obtain ⟨js2, g2, q2⟩ := ih1 g1
    exact ⟨js2, g2, q2.trans q1⟩
theorem ints_perm : ∀ {vs us : List Value}, vs.Perm us → ∀ {ss : List Int}, IntsAre us ss → ∃ ss', IntsAre vs ss' ∧ ss'.Perm ss := by
  intro vs us p
  induction p with
  | nil => exact fun {ss} h => ⟨ss, h, .refl _⟩
  | cons x _ ih =>
    intro ss h
    cases h with
    | cons y t h2 =>
      obtain ⟨js', g, q⟩ := ih h2
      exact ⟨_ :: js', .cons y t g, q.cons _⟩
  | swap x y l =>
    intro ss h
    cases h with
    | cons a t h2 =>
      cases h2 with
      | cons b u h4 => exact ⟨_, .cons b u (.cons a t h4), .swap _ _ _⟩
  | trans _ _ ih1 ih2 =>
    intro ss h
    obtain ⟨js1, g1, q1⟩ := ih2 h
    obtain ⟨js2, g2, q2⟩ := ih1 g1
    exact ⟨js2, g2, q2.trans q1⟩
variable {A : Around} {E : Value → Shared → Prop} {s : Shared} {a : Addr}
/-- sorted(...) of such a set of texts -/
theorem sortX_strs {ks : List Str} {Q : Value → Shared → Prop} (R : SetX (PySem.strKind P w) s.heap a ks) (hh : A.handled = none) (h64 : ks.length < 64)
    (hQ : ∀ s' p (out : Array Value) (c : Nat) (ss : List Str), (∀ b o, s.heap.get? b = some o → s'.heap.get? b = some o) → s'.gens = s.gens → s'.os = s.os → s.heap.objs.size ≤ p →
      s'.heap.get? p = some (seqObj "list" out c) → StrsAre out.toList ss → ss.Perm ks → sortedS ss = true → Q (.ref p) s') :
    wpAny (model P w) A (call (.builtin "sorted") [.ref a]) Q E s := by
  obtain ⟨o, es, ep, t, js, ho, hex, hd, pj, pk, nd, hb, hf, hr, hl⟩ := R
  refine Calls.call_function_entry kind_sorted plain_sorted entry_sorted (args_sorted1 _) ?_
  unfold Builtin.«sorted»
  refine wpAny_bind (m := checkCount "sorted" 1 1 _) (wpAny_pure ?_)
  refine wpAny_bind (collect_set (A := A.in1) hh ⟨o, ho, hex.1, hd⟩ hf hb hr hl fun s1 vs k1 hz g1 o1 pm => ?_)
  obtain ⟨xs, hS, px⟩ := strs_perm pm (paired_strs pj)
  have hvl : vs.length = ks.length := by
    rw [pm.length_eq, List.length_map, paired_len pj, pk.length_eq]
  have hv6 : vs.length < 64 := by
    rw [hvl]
    exact h64
  refine wpAny_bind (wpAny_newList ?_ (Nat.le_trans (Nat.le_of_lt hv6) (by decide)))
  have at1 : (s1.heap.push (seqObj "list" vs.toArray 0)).get? s1.heap.objs.size = some (seqObj "list" vs.toArray 0) := Heap.get?_push_size _ rfl
  refine wpAny_bind (wpAny_holding (wpAny_call_entry slot_list_sort ⟨_, at1, rfl⟩ entry_list_sort (list_sort_treeK strKind_oneLt at1 hS.keysOf (fun v₁ v₂ rest e => keyKind_strs (by rw [← e]; exact hS)) hv6 fun st' hp hs => ⟨_, rfl, ?_⟩) (args_list_sort _)))
  obtain ⟨ys, g1', g2, g3⟩ := sorted_out_str hS hp hs
  obtain ⟨c, hc⟩ := sortedHeap_at (vs := vs) (out := (arrOf st').map (·.2)) at1
  refine wpAny_pure ⟨_, rfl, hQ _ s1.heap.objs.size ((arrOf st').map (·.2)) c ys (fun b u e => ?_) g1 o1 hz hc g1' (g2.trans (px.trans pk)) g3⟩
  have q := k1 b u e
  have lt := Heap.lt_size q
  show (sortedHeap (s1.heap.push (seqObj "list" vs.toArray 0)) s1.heap.objs.size vs _).get? b = some u
  rw [sortedHeap_old (Nat.ne_of_lt lt) (by rw [size_push']; exact Nat.lt_succ_of_lt lt)]
  exact Heap.get?_push_of_some _ q
/-- sorted(...) of such a set of numbers -/
theorem sortX_ints {ks : List Int} {Q : Value → Shared → Prop} (R : SetX (PySem.intKind P w) s.heap a ks) (hh : A.handled = none) (h64 : ks.length < 64)
    (hQ : ∀ s' p (out : Array Value) (c : Nat) (ss : List Int), (∀ b o, s.heap.get? b = some o → s'.heap.get? b = some o) → s'.gens = s.gens → s'.os = s.os → s.heap.objs.size ≤ p →
      s'.heap.get? p = some (seqObj "list" out c) → IntsAre out.toList ss → ss.Perm ks → ss.Pairwise (· ≤ ·) → Q (.ref p) s') :
    wpAny (model P w) A (call (.builtin "sorted") [.ref a]) Q E s := by
  obtain ⟨o, es, ep, t, js, ho, hex, hd, pj, pk, nd, hb, hf, hr, hl⟩ := R
  refine Calls.call_function_entry kind_sorted plain_sorted entry_sorted (args_sorted1 _) ?_
  unfold Builtin.«sorted»
  refine wpAny_bind (m := checkCount "sorted" 1 1 _) (wpAny_pure ?_)
  refine wpAny_bind (collect_set (A := A.in1) hh ⟨o, ho, hex.1, hd⟩ hf hb hr hl fun s1 vs k1 hz g1 o1 pm => ?_)
  obtain ⟨xs, hS, px⟩ := ints_perm pm (paired_ints pj)
  have hvl : vs.length = ks.length := by
    rw [pm.length_eq, List.length_map, paired_len pj, pk.length_eq]
  have hv6 : vs.length < 64 := by
    rw [hvl]
    exact h64
  refine wpAny_bind (wpAny_newList ?_ (Nat.le_trans (Nat.le_of_lt hv6) (by decide)))
  have at1 : (s1.heap.push (seqObj "list" vs.toArray 0)).get? s1.heap.objs.size = some (seqObj "list" vs.toArray 0) := Heap.get?_push_size _ rfl
  refine wpAny_bind (wpAny_holding (wpAny_call_entry slot_list_sort ⟨_, at1, rfl⟩ entry_list_sort (list_sort_tree at1 hS hv6 fun out ns' a1 a2 a3 => ⟨_, rfl, ?_⟩) (args_list_sort _)))
  obtain ⟨c, hc⟩ := sortedHeap_at (vs := vs) (out := out) at1
  refine wpAny_pure ⟨_, rfl, hQ _ s1.heap.objs.size out c ns' (fun b u e => ?_) g1 o1 hz hc a1 (a2.trans (px.trans pk)) a3⟩
  have q := k1 b u e
  have lt := Heap.lt_size q
  show (sortedHeap (s1.heap.push (seqObj "list" vs.toArray 0)) s1.heap.objs.size vs _).get? b = some u
  rw [sortedHeap_old (Nat.ne_of_lt lt) (by rw [size_push']; exact Nat.lt_succ_of_lt lt)]
  exact Heap.get?_push_of_some _ q
end
end TS
namespace TS
open PySem PySem.Spec PyProof.Rows L2
/-- a set of the texts ks at a -/
def SetS (P : Program) (w : World) (a : Addr) (ks : List Str) : HO := .ext fun h => SetX (PySem.strKind P w) h a ks
/-- a set of the numbers ks at a -/
def SetI (P : Program) (w : World) (a : Addr) (ks : List Int) : HO := .ext fun h => SetX (PySem.intKind P w) h a ks
section
variable {X : Cx}
theorem setS_new {P : Program} {w : World} {H : Hp} {h : Heap} {a : Addr} {ks : List Str} (R : SetX (PySem.strKind P w) h a ks) : ObjOk P w H h a (SetS P w a ks) := by
  have ⟨o, _, _, _, _, ho, _⟩ := R
  exact ⟨R, ⟨o, ho⟩, fun h1 h2 p k => SetX.keep p k⟩
theorem setI_new {P : Program} {w : World} {H : Hp} {h : Heap} {a : Addr} {ks : List Int} (R : SetX (PySem.intKind P w) h a ks) : ObjOk P w H h a (SetI P w a ks) := by
  have ⟨o, _, _, _, _, ho, _⟩ := R
  exact ⟨R, ⟨o, ho⟩, fun h1 h2 p k => SetX.keep p k⟩
theorem strs_keys {P : Program} {w : World} : ∀ {us : List Value} {ss : List Str}, StrsAre us ss → us.length = ss.length ∧ ∀ (i : Nat) v, us[i]? = some v → ∃ k, ss[i]? = some k ∧ (PySem.strKind P w).is k v = true ∧ v.scannable = true
  | _, _, .nil => ⟨rfl, fun i v e => by simp at e⟩
  | _, _, .cons y t r => by
    obtain ⟨h1, h2⟩ := strs_keys (P := P) (w := w) r
    refine ⟨by rw [List.length_cons, List.length_cons, h1], fun i v e => ?_⟩
    cases i with
    | zero =>
      have e2 : Value.str y t = v := by simpa using e
      subst e2
      exact ⟨y, rfl, PySem.strKind_is P w y t, rfl⟩
    | succ i => exact h2 i v (by simpa using e)
theorem ints_keys {P : Program} {w : World} : ∀ {us : List Value} {ss : List Int}, IntsAre us ss → us.length = ss.length ∧ ∀ (i : Nat) v, us[i]? = some v → ∃ k, ss[i]? = some k ∧ (PySem.intKind P w).is k v = true ∧ v.scannable = true
  | _, _, .nil => ⟨rfl, fun i v e => by simp at e⟩
  | _, _, .cons y t r => by
    obtain ⟨h1, h2⟩ := ints_keys (P := P) (w := w) r
    refine ⟨by rw [List.length_cons, List.length_cons, h1], fun i v e => ?_⟩
    cases i with
    | zero =>
      have e2 : Value.int y t = v := by simpa using e
      subst e2
      exact ⟨y, rfl, PySem.intKind_is P w y t, rfl⟩
    | succ i => exact h2 i v (by simpa using e)
/-- set(xs), a list of texts or of numbers -/
def rSetL (P : Program) (w : World) : List V → Hp → VK → Prop := fun vs H Q => ∃ (l : Addr) (xs : List V), vs = [V.ref l] ∧ Rd H l (.lst xs) ∧ xs.length + 1 < scanBound ∧
  ((∃ ss : List Str, xs = ss.map V.str ∧ ∀ p, H p = none → Q (.ref p) (upd H p (SetS P w p (once ss)))) ∨
   (∃ ns : List Int, xs = ns.map V.int ∧ ∀ p, H p = none → Q (.ref p) (upd H p (SetI P w p (once ns)))))
theorem cr_setL (hc : X.calm = true) : CallR X (.type "set") (rSetL X.prog X.w) := by
  intro pins s σ H vs us Q I r h
  obtain ⟨l, xs, rfl, hl, room, q⟩ := h
  rw [Vals.ref1 r]
  obtain ⟨hz, its, n, rv, hob⟩ := (show ObjOk X.prog X.w H s.heap l (.lst xs) from hl.ok I.hok)
  have hil : s.heap.IsList l its.toArray := ⟨_, hob, rfl, n, rfl⟩
  have hlen : its.length = xs.length := rv.length.symm
  rcases q with ⟨ss, rfl, q⟩ | ⟨ns, rfl, q⟩
  · obtain ⟨k1, k2⟩ := strs_keys (P := X.prog) (w := X.w) rv.strs
    refine call_setX (kd := PySem.strKind X.prog X.w) (keys := ss) (I.ok.hd hc) hil (by rw [List.size_toArray]; exact k1.symm) (fun i v e => k2 i v (by rw [List.getElem?_toArray] at e; exact e)) (by rw [List.size_toArray, hlen]; exact room) fun h' tk S' k => ?_
    exact ⟨.ref _, upd H s.heap.objs.size (SetS X.prog X.w s.heap.objs.size (once ss)), I.laid (t' := tk) (fun b u e => k b u (Heap.lt_size e) e) (Nat.le_refl _) (setS_new S'), rfl, q _ (I.hok.fresh (Nat.le_refl _))⟩
  · obtain ⟨k1, k2⟩ := ints_keys (P := X.prog) (w := X.w) rv.ints
    refine call_setX (kd := PySem.intKind X.prog X.w) (keys := ns) (I.ok.hd hc) hil (by rw [List.size_toArray]; exact k1.symm) (fun i v e => k2 i v (by rw [List.getElem?_toArray] at e; exact e)) (by rw [List.size_toArray, hlen]; exact room) fun h' tk S' k => ?_
    exact ⟨.ref _, upd H s.heap.objs.size (SetI X.prog X.w s.heap.objs.size (once ns)), I.laid (t' := tk) (fun b u e => k b u (Heap.lt_size e) e) (Nat.le_refl _) (setI_new S'), rfl, q _ (I.hok.fresh (Nat.le_refl _))⟩
/-- sorted(...) of such a set -/
def rSortX (P : Program) (w : World) : List V → Hp → VK → Prop := fun vs H Q => ∃ (a : Addr), vs = [V.ref a] ∧
  ((∃ ks : List Str, H a = some (SetS P w a ks) ∧ ks.length < 64 ∧ ∀ (ss : List Str) (p : Addr), ss.Perm ks → sortedS ss = true → H p = none → Q (.ref p) (upd H p (.lst (ss.map V.str)))) ∨
   (∃ ks : List Int, H a = some (SetI P w a ks) ∧ ks.length < 64 ∧ ∀ (ns : List Int) (p : Addr), ns.Perm ks → ns.Pairwise (· ≤ ·) → H p = none → Q (.ref p) (upd H p (.lst (ns.map V.int)))))
theorem cr_sortX (hc : X.calm = true) : CallR X (.builtin "sorted") (rSortX X.prog X.w) := by
  intro pins s σ H vs us Q I r h
  obtain ⟨a, rfl, h⟩ := h
  rw [Vals.ref1 r]
  rcases h with ⟨ks, ha, h64, q⟩ | ⟨ks, ha, h64, q⟩
  · refine sortX_strs ((I.hok a _ ha).1) (I.ok.hd hc) h64 fun s' p out c ss k g o hp hg hi pm hs => ?_
    have hlen : (ss.map V.str).length ≤ sizeLine := by
      rw [List.length_map, pm.length_eq]
      exact Nat.le_trans (Nat.le_of_lt h64) (by decide)
    have hn : H p = none := I.hok.fresh hp
    have J : Inv X pins σ (upd H p (.lst (ss.map V.str))) s' :=
      I.call' (ch := []) o (Un.laid k hp hn) (I.hok.laid k hp ⟨hlen, out.toList, c, vals_of_strs hi, hg⟩) (by rw [g]; exact I.bare) (fun _ z => nomatch z)
    exact ⟨.ref p, _, J, rfl, q ss p pm hs hn⟩
  · refine sortX_ints ((I.hok a _ ha).1) (I.ok.hd hc) h64 fun s' p out c ss k g o hp hg hi pm hs => ?_
    have hlen : (ss.map V.int).length ≤ sizeLine := by
      rw [List.length_map, pm.length_eq]
      exact Nat.le_trans (Nat.le_of_lt h64) (by decide)
    have hn : H p = none := I.hok.fresh hp
    have J : Inv X pins σ (upd H p (.lst (ss.map V.int))) s' :=
      I.call' (ch := []) o (Un.laid k hp hn) (I.hok.laid k hp ⟨hlen, out.toList, c, vals_of_ints hi, hg⟩) (by rw [g]; exact I.bare) (fun _ z => nomatch z)
    exact ⟨.ref p, _, J, rfl, q ss p pm hs hn⟩
end
end TS
namespace TS
open PySem L2
/-! trees of terms: words, digits, choices; what stands for them in the heap -/
inductive Tr where
  | num (n : Int)
  | wd (x : Str)
  | ch (a b c d : Tr)
def Tr.deep : Tr → Nat
  | .num _ => 1
  | .wd _ => 1
  | .ch a b c d => 1 + max (max a.deep b.deep) (max c.deep d.deep)
def Tr.text : Tr → Str
  | .num n => toString n
  | .wd x => x
  | .ch a b c d => Str.empty ++ "(" ++ a.text ++ "=" ++ b.text ++ "?" ++ c.text ++ ":" ++ d.text ++ ")"
/-- its constants are of one sign -/
def Tr.small : Tr → Prop
  | .num n => 0 ≤ n ∧ n ≤ 9
  | .wd _ => True
  | .ch a b c d => a.small ∧ b.small ∧ c.small ∧ d.small
def Tr.leaves : Tr → List V
  | .num n => [.int n]
  | .wd x => [.str x]
  | .ch a b c d => a.leaves ++ (b.leaves ++ (c.leaves ++ (d.leaves ++ [])))
/-- the value v is the tree t -/
inductive TrAt (H : Hp) : V → Tr → Prop where
  | num (n : Int) : TrAt H (.int n) (.num n)
  | wd (x : Str) : TrAt H (.str x) (.wd x)
  | ch {p : Addr} {u v y z : V} {a b c d : Tr} (h : H p = some (.tup [u, v, y, z])) (ha : TrAt H u a) (hb : TrAt H v b) (hc : TrAt H y c) (hd : TrAt H z d) : TrAt H (.ref p) (.ch a b c d)
theorem TrAt.same {H H' : Hp} {v : V} {t : Tr} (h : TrAt H v t) (s : Same H H') : TrAt H' v t := by
  induction h with
  | num n => exact .num n
  | wd x => exact .wd x
  | ch h _ _ _ _ a b c d => exact .ch (s _ _ h) a b c d
theorem Tr.deep_pos (t : Tr) : 1 ≤ t.deep := by
  cases t <;> simp only [Tr.deep] <;> omega
theorem same_upd {H : Hp} {p : Addr} (h : H p = none) (o : HO) : Same H (upd H p o) := fun b u q => by
  rw [upd_ne (ne_of_none q h)]
  exact q
/-- a comprehension over a tuple, whose element is a call that changes nothing -/
theorem lc_mapT {K : PySem.W.Frag} {p D : Addr} {xs ys : List V} {k : Nat} {te : TE} {σ : St} {H : Hp} {Qd : Hp → Prop} (hp : H p = some (.tup xs)) (hl : ys.length = xs.length) (h6 : xs.length ≤ 1000) (hD : H D = none)
    (hw : ∀ v, wipe ((wipe σ [k]).set k v) [k] = wipe σ [k])
    (step : ∀ (i : Nat) (x y : V) (H1 : Hp) (R : VK), xs[i]? = some x → ys[i]? = some y → Same H H1 → (∀ H2, Same H1 H2 → R y H2) → te ((wipe σ [k]).set k (some x)) H1 R)
    (hd : ∀ H1, Same H H1 → H1 D = some (.lst ys) → Qd H1) :
    ∃ W : Nat → Nat → Hp → Prop, (∃ m, W 0 m (upd H D (.lst []))) ∧ ∀ i m H, W i m H →
      ((Itt K p).stop i H ∧ Qd H) ∨ ((Itt K p).go i H ∧ ∃ Nx : Hp → Prop, (∀ H', Nx H' → ∃ m', m' < m ∧ W (i + 1) m' H') ∧ ∀ x H', (Itt K p).yld i H x H' → gName k x (wipe σ [k]) H' fun σ2 H2 => wipe σ2 [k] = wipe σ [k] ∧ tYes σ2 H2 fun b H3 =>
        if b = true then te σ2 H3 fun y H4 => ∃ acc, H4 D = some (.lst acc) ∧ acc.length < sizeLine ∧ Nx (upd H4 D (.lst (acc ++ [y]))) else Nx H3) := by
  have hpD : p ≠ D := ne_of_none hp hD
  refine lc_tup (K := K) (a := p) (xs := xs) (fun i H1 => Same H H1 ∧ H1 D = some (.lst (ys.take i))) ⟨same_upd hD _, upd_same⟩ (fun i H1 _ z => SqT.of (z.1 _ _ hp)) (fun i x H1 hx z => ?_) (fun H1 z => ?_)
  · obtain ⟨s1, d1⟩ := z
    have hi : i < xs.length := (List.getElem?_eq_some_iff.mp hx).1
    have hy : ys[i]? = some ys[i] := List.getElem?_eq_getElem (by omega)
    refine ⟨hw _, ?_⟩
    unfold tYes
    dsimp only
    rw [if_pos rfl]
    refine step i x ys[i] H1 _ hx hy s1 fun H2 s2 => ?_
    refine ⟨ys.take i, s2 _ _ d1, ?_, ?_⟩
    · rw [List.length_take]
      exact Nat.lt_of_le_of_lt (Nat.le_trans (Nat.min_le_right _ _) (by rw [hl]; exact h6)) (by decide)
    · refine ⟨fun b o q => ?_, ?_⟩
      · have hb : b ≠ D := ne_of_none q hD
        rw [upd_ne hb]
        exact s2 _ _ (s1 _ _ q)
      · rw [upd_same, List.take_succ, hy]
        rfl
  · obtain ⟨s1, d1⟩ := z
    rw [List.take_of_length_le (by omega)] at d1
    exact hd H1 s1 d1
theorem cr_or {X : Cx} {f : Value} {r1 r2 : List V → Hp → VK → Prop} (h1 : CallR X f r1) (h2 : CallR X f r2) : CallR X f (fun xs H Q => r1 xs H Q ∨ r2 xs H Q) := by
  intro pins s σ H xs us Q I r h
  rcases h with h | h
  · exact h1 pins s σ H xs us Q I r h
  · exact h2 pins s σ H xs us Q I r h
end TS
namespace TS
open PySem L2
/-! what the reader of terms tells, sign by sign -/
def isLet (c : Nat) : Bool := decide (c ∈ ("abcdefghijklmnopqrstuvwxyz" : Str).cps.toList)
def isDig (c : Nat) : Bool := decide (c ∈ ("0123456789" : Str).cps.toList)
theorem let_codes : ("abcdefghijklmnopqrstuvwxyz" : Str).cps.toList = [97, 98, 99, 100, 101, 102, 103, 104, 105, 106, 107, 108, 109, 110, 111, 112, 113, 114, 115, 116, 117, 118, 119, 120, 121, 122] := by decide +kernel
theorem dig_codes : ("0123456789" : Str).cps.toList = [48, 49, 50, 51, 52, 53, 54, 55, 56, 57] := by decide +kernel
theorem isLet_iff {c : Nat} : isLet c = true ↔ 97 ≤ c ∧ c ≤ 122 := by
  unfold isLet
  rw [let_codes, decide_eq_true_iff]
  simp only [List.mem_cons, List.not_mem_nil, or_false]
  omega
theorem isDig_iff {c : Nat} : isDig c = true ↔ 48 ≤ c ∧ c ≤ 57 := by
  unfold isDig
  rw [dig_codes, decide_eq_true_iff]
  simp only [List.mem_cons, List.not_mem_nil, or_false]
  omega
def wend (cs : List Nat) (i : Nat) : Nat := i + ((cs.drop i).takeWhile isLet).length
def seg (z : Str) (i j : Nat) : Str := cutS z (some (i : Int)) (some (j : Int))
def partsAt (p : Nat → Option (Tr × Nat)) (cs : List Nat) : List Nat → Nat → Option (List Tr × Nat)
  | [], i => some ([], i)
  | s :: ss, i => if cs[i]? = some s then
      match p (i + 1) with
      | none => none
      | some (t, e) => match partsAt p cs ss e with
        | none => none
        | some (ts, e') => some (t :: ts, e')
    else none
def choiceAt (p : Nat → Option (Tr × Nat)) (cs : List Nat) (i : Nat) : Option (Tr × Nat) := match partsAt p cs [40, 61, 63, 58] i with
  | some ([a, b, c, d], e) => if cs[e]? = some 41 then some (.ch a b c d, e + 1) else none
  | _ => none
def treeAt (z : Str) : Nat → Nat → Option (Tr × Nat)
  | 0, _ => none
  | r + 1, i => match z.cps.toList[i]? with
    | none => none
    | some c => if c = 40 then choiceAt (treeAt z r) z.cps.toList i
      else if isDig c = true then some (.num ((c : Int) - 48), i + 1)
      else if 1 ≤ wend z.cps.toList i - i ∧ wend z.cps.toList i - i ≤ 8 then some (.wd (seg z i (wend z.cps.toList i)), wend z.cps.toList i) else none
def treeOf (z : Str) : Option Tr := match treeAt z 3 0 with
  | some (t, e) => if e = z.length then some t else none
  | none => none
/-- a word as it may stand in a term -/
def WordOk (x : Str) : Prop := 1 ≤ x.length ∧ x.length ≤ 8 ∧ ∀ c ∈ x.cps.toList, isLet c = true
def Tr.fine : Tr → Prop
  | .num n => 0 ≤ n ∧ n ≤ 9
  | .wd x => WordOk x
  | .ch a b c d => a.fine ∧ b.fine ∧ c.fine ∧ d.fine
theorem Tr.fine.small : ∀ {t : Tr}, t.fine → t.small
  | .num _, h => h
  | .wd _, _ => True.intro
  | .ch _ _ _ _, h => ⟨h.1.small, h.2.1.small, h.2.2.1.small, h.2.2.2.small⟩
theorem seg_codes (z : Str) {i j : Nat} (h : i ≤ j) (hj : j ≤ z.length) : (seg z i j).cps.toList = (z.cps.toList.drop i).take (j - i) := by
  have e1 : HT.sIx z.length 0 (some (i : Int)) = i := by
    unfold HT.sIx
    simp only
    rw [if_neg (by omega)]
    omega
  have e2 : HT.sIx z.length z.length (some (j : Int)) = j := by
    unfold HT.sIx
    simp only
    rw [if_neg (by omega)]
    omega
  unfold seg cutS
  rw [e1, e2]
theorem str_ext {a b : Str} (h : a.cps.toList = b.cps.toList) : a = b := by
  cases a
  cases b
  simp only [Str.mk.injEq]
  exact Array.ext' h
theorem len_codes (a : Str) : a.cps.toList.length = a.length := by
  unfold Str.length
  simp
theorem codes_append (a b : Str) : (a ++ b).cps.toList = a.cps.toList ++ b.cps.toList := by
  show (a.cps ++ b.cps).toList = _
  simp
theorem codes_digit {n : Int} (h0 : 0 ≤ n) (h9 : n ≤ 9) : ((toString n : String) : Str).cps.toList = [48 + n.toNat] := by
  have h : n = 0 ∨ n = 1 ∨ n = 2 ∨ n = 3 ∨ n = 4 ∨ n = 5 ∨ n = 6 ∨ n = 7 ∨ n = 8 ∨ n = 9 := by omega
  rcases h with rfl | rfl | rfl | rfl | rfl | rfl | rfl | rfl | rfl | rfl <;> decide +kernel
theorem codes_ch (a b c d : Tr) : (Tr.ch a b c d).text.cps.toList = 40 :: (a.text.cps.toList ++ 61 :: (b.text.cps.toList ++ 63 :: (c.text.cps.toList ++ 58 :: (d.text.cps.toList ++ [41])))) := by
  have e1 : Str.empty.cps.toList = [] := rfl
  have e2 : ("(" : Str).cps.toList = [40] := by decide +kernel
  have e3 : ("=" : Str).cps.toList = [61] := by decide +kernel
  have e4 : ("?" : Str).cps.toList = [63] := by decide +kernel
  have e5 : (":" : Str).cps.toList = [58] := by decide +kernel
  have e6 : (")" : Str).cps.toList = [41] := by decide +kernel
  simp only [Tr.text, codes_append, e1, e2, e3, e4, e5, e6, List.append_assoc, List.nil_append, List.cons_append]
/-- no letter stands ahead of what follows -/
def NoLet (post : List Nat) : Prop := ∀ c, post.head? = some c → isLet c = false
theorem takeWhile_word {w post : List Nat} (hw : ∀ c ∈ w, isLet c = true) (hp : NoLet post) : (w ++ post).takeWhile isLet = w := by
  induction w with
  | nil =>
    cases post with
    | nil => rfl
    | cons c cs =>
      have := hp c rfl
      simp [List.takeWhile, this]
  | cons c cs ih =>
    have h1 := hw c (by simp)
    rw [List.cons_append, List.takeWhile_cons_of_pos h1, ih fun x hx => hw x (by simp [hx])]
theorem noLet_cons {c : Nat} {cs : List Nat} (h : isLet c = false) : NoLet (c :: cs) := fun d e => by
  simp only [List.head?_cons, Option.some.injEq] at e
  rw [← e]
  exact h
theorem get_mid {pre : List Nat} {c : Nat} {post : List Nat} : (pre ++ c :: post)[pre.length]? = some c := by
  rw [List.getElem?_append_right (Nat.le_refl _), Nat.sub_self]
  rfl
theorem drop_mid {pre post : List Nat} : (pre ++ post).drop pre.length = post := List.drop_left
/-- the reader finds the text of a tree -/
theorem treeAt_text (z : Str) : ∀ (t : Tr) (r : Nat) (pre post : List Nat), t.fine → t.deep ≤ r → z.cps.toList = pre ++ (t.text.cps.toList ++ post) → NoLet post →
    treeAt z r pre.length = some (t, pre.length + t.text.cps.toList.length) := by
  intro t
  induction t with
  | num n =>
    intro r pre post hf hd hz hp
    obtain ⟨r, rfl⟩ : ∃ q, r = q + 1 := ⟨r - 1, by simp only [Tr.deep] at hd; omega⟩
    have ec : (Tr.num n).text.cps.toList = [48 + n.toNat] := codes_digit hf.1 hf.2
    have h0 := hf.1
    have h9 := hf.2
    rw [ec] at hz ⊢
    have eg : z.cps.toList[pre.length]? = some (48 + n.toNat) := by
      rw [hz, List.cons_append, List.nil_append]
      exact get_mid
    unfold treeAt
    rw [eg]
    simp only
    rw [if_neg (by omega), if_pos (isDig_iff.mpr (by omega))]
    have e : ((48 + n.toNat : Nat) : Int) - 48 = n := by omega
    rw [e]
    rfl
  | wd x =>
    intro r pre post hf hd hz hp
    obtain ⟨r, rfl⟩ : ∃ q, r = q + 1 := ⟨r - 1, by simp only [Tr.deep] at hd; omega⟩
    obtain ⟨h1, h8, hl⟩ := hf
    show treeAt z (r + 1) pre.length = some (.wd x, pre.length + x.cps.toList.length)
    have hz' : z.cps.toList = pre ++ (x.cps.toList ++ post) := hz
    have hxl := len_codes x
    cases hx : x.cps.toList with
    | nil =>
      rw [hx] at hxl
      simp only [List.length_nil] at hxl
      omega
    | cons c cs =>
      have hc : isLet c = true := hl c (by rw [hx]; simp)
      have hcc := isLet_iff.mp hc
      have eg : z.cps.toList[pre.length]? = some c := by
        rw [hz', hx, List.cons_append]
        exact get_mid
      have ew : wend z.cps.toList pre.length = pre.length + x.length := by
        unfold wend
        rw [hz', drop_mid, takeWhile_word hl hp, hxl]
      have zl : z.length = pre.length + (x.length + post.length) := by
        rw [← len_codes z, hz', List.length_append, List.length_append, hxl]
      have es : seg z pre.length (pre.length + x.length) = x := by
        apply str_ext
        rw [seg_codes z (Nat.le_add_right _ _) (by omega), hz', drop_mid, Nat.add_sub_cancel_left, ← hxl, List.take_left]
      unfold treeAt
      rw [eg]
      simp only
      rw [if_neg (by omega), if_neg (fun q => by have := isDig_iff.mp q; omega), ew, if_pos (by omega), es, ← hx, hxl]
  | ch a b c d iha ihb ihc ihd =>
    intro r pre post hf hd hz hp
    obtain ⟨r, rfl⟩ : ∃ q, r = q + 1 := ⟨r - 1, by simp only [Tr.deep] at hd; omega⟩
    obtain ⟨fa, fb, fc, fd⟩ := hf
    have dd : a.deep ≤ r ∧ b.deep ≤ r ∧ c.deep ≤ r ∧ d.deep ≤ r := by
      simp only [Tr.deep] at hd
      omega
    rw [codes_ch] at hz ⊢
    have n1 : isLet 61 = false := by decide +kernel
    have n2 : isLet 63 = false := by decide +kernel
    have n3 : isLet 58 = false := by decide +kernel
    have n4 : isLet 41 = false := by decide +kernel
    generalize ha : a.text.cps.toList = ca at *
    generalize hb : b.text.cps.toList = cb at *
    generalize hcc : c.text.cps.toList = cc at *
    generalize hdd : d.text.cps.toList = cd at *
    have z0 : z.cps.toList = pre ++ 40 :: (ca ++ 61 :: (cb ++ 63 :: (cc ++ 58 :: (cd ++ 41 :: post)))) := by
      rw [hz]
      simp
    have z1 : z.cps.toList = (pre ++ [40]) ++ (ca ++ 61 :: (cb ++ 63 :: (cc ++ 58 :: (cd ++ 41 :: post)))) := by rw [z0]; simp
    have z1' : z.cps.toList = (pre ++ [40] ++ ca) ++ 61 :: (cb ++ 63 :: (cc ++ 58 :: (cd ++ 41 :: post))) := by rw [z0]; simp
    have z2 : z.cps.toList = (pre ++ [40] ++ ca ++ [61]) ++ (cb ++ 63 :: (cc ++ 58 :: (cd ++ 41 :: post))) := by rw [z0]; simp
    have z2' : z.cps.toList = (pre ++ [40] ++ ca ++ [61] ++ cb) ++ 63 :: (cc ++ 58 :: (cd ++ 41 :: post)) := by rw [z0]; simp
    have z3 : z.cps.toList = (pre ++ [40] ++ ca ++ [61] ++ cb ++ [63]) ++ (cc ++ 58 :: (cd ++ 41 :: post)) := by rw [z0]; simp
    have z3' : z.cps.toList = (pre ++ [40] ++ ca ++ [61] ++ cb ++ [63] ++ cc) ++ 58 :: (cd ++ 41 :: post) := by rw [z0]; simp
    have z4 : z.cps.toList = (pre ++ [40] ++ ca ++ [61] ++ cb ++ [63] ++ cc ++ [58]) ++ (cd ++ 41 :: post) := by rw [z0]; simp
    have z4' : z.cps.toList = (pre ++ [40] ++ ca ++ [61] ++ cb ++ [63] ++ cc ++ [58] ++ cd) ++ 41 :: post := by rw [z0]; simp
    have g0 : z.cps.toList[pre.length]? = some 40 := by rw [z0]; exact get_mid
    have g1 : z.cps.toList[(pre ++ [40] ++ ca).length]? = some 61 := by rw [z1']; exact get_mid
    have g2 : z.cps.toList[(pre ++ [40] ++ ca ++ [61] ++ cb).length]? = some 63 := by rw [z2']; exact get_mid
    have g3 : z.cps.toList[(pre ++ [40] ++ ca ++ [61] ++ cb ++ [63] ++ cc).length]? = some 58 := by rw [z3']; exact get_mid
    have g4 : z.cps.toList[(pre ++ [40] ++ ca ++ [61] ++ cb ++ [63] ++ cc ++ [58] ++ cd).length]? = some 41 := by rw [z4']; exact get_mid
    have t1 := iha r (pre ++ [40]) _ fa dd.1 z1 (noLet_cons n1)
    have t2 := ihb r (pre ++ [40] ++ ca ++ [61]) _ fb dd.2.1 z2 (noLet_cons n2)
    have t3 := ihc r (pre ++ [40] ++ ca ++ [61] ++ cb ++ [63]) _ fc dd.2.2.1 z3 (noLet_cons n3)
    have t4 := ihd r (pre ++ [40] ++ ca ++ [61] ++ cb ++ [63] ++ cc ++ [58]) _ fd dd.2.2.2 z4 (noLet_cons n4)
    have l0 : (pre ++ [40]).length = pre.length + 1 := by simp
    simp only [List.length_append, List.length_cons, List.length_nil, Nat.zero_add] at t1 t2 t3 t4 g1 g2 g3 g4
    unfold treeAt
    rw [g0]
    simp only
    rw [if_pos trivial]
    unfold choiceAt
    have P : partsAt (treeAt z r) z.cps.toList [40, 61, 63, 58] pre.length = some ([a, b, c, d], pre.length + 1 + ca.length + 1 + cb.length + 1 + cc.length + 1 + cd.length) := by
      simp only [partsAt]
      rw [if_pos g0, t1]
      simp only
      rw [if_pos g1, t2]
      simp only
      rw [if_pos g2, t3]
      simp only
      rw [if_pos g3, t4]
    rw [P]
    simp only
    rw [if_pos g4]
    simp only [List.length_append, List.length_cons, List.length_nil, Option.some.injEq, Prod.mk.injEq, true_and]
    omega
theorem treeOf_text {t : Tr} (hf : t.fine) (hd : t.deep ≤ 3) : treeOf t.text = some t := by
  have h := treeAt_text t.text t 3 [] [] hf hd (by simp) (fun c e => by simp at e)
  unfold treeOf
  simp only [List.length_nil, Nat.zero_add] at h
  rw [h]
  simp only
  rw [if_pos (len_codes _)]
theorem text_inj {t u : Tr} (hf : t.fine) (hd : t.deep ≤ 3) (gf : u.fine) (gd : u.deep ≤ 3) (h : t.text = u.text) : t = u := by
  have h1 := treeOf_text hf hd
  rw [h, treeOf_text gf gd] at h1
  exact (Option.some.inj h1).symm
end TS
namespace TS
open PySem L2
/-! sorted texts and numbers are told by what is in them; the words and numbers of a tree; a Term in the heap -/
open PySem.Spec PyProof.Rows in
theorem sortedS_pair : ∀ l : List Str, sortedS l = true → l.Pairwise fun a b => a.cps.toList ≤ b.cps.toList := by
  have step : ∀ (l : List Str) (p : Str), risingS p l = true → (p :: l).Pairwise fun a b => a.cps.toList ≤ b.cps.toList := by
    intro l
    induction l with
    | nil => exact fun p _ => List.pairwise_singleton _ _
    | cons x r ih =>
      intro p h
      have h' : (!ltCps x.cps.toList p.cps.toList && risingS x r) = true := h
      rw [Bool.and_eq_true, Bool.not_eq_true', ltCps_eq] at h'
      have hx := ih x h'.2
      have hp : p.cps.toList ≤ x.cps.toList := List.not_lt.mp (of_decide_eq_false h'.1)
      refine List.pairwise_cons.mpr ⟨fun y hy => ?_, hx⟩
      rcases List.mem_cons.mp hy with rfl | hy
      · exact hp
      · exact List.le_trans hp ((List.pairwise_cons.mp hx).1 y hy)
  intro l h
  cases l with
  | nil => exact List.Pairwise.nil
  | cons x r => exact step r x h
theorem sortedS_same {a b : List Str} (hp : a.Perm b) (ha : PyProof.Rows.sortedS a = true) (hb : PyProof.Rows.sortedS b = true) : a = b :=
  List.Perm.eq_of_pairwise (fun x y _ _ h1 h2 => str_ext (List.le_antisymm h1 h2)) (sortedS_pair a ha) (sortedS_pair b hb) hp
theorem sortedI_same {a b : List Int} (hp : a.Perm b) (ha : a.Pairwise (· ≤ ·)) (hb : b.Pairwise (· ≤ ·)) : a = b :=
  List.Perm.eq_of_pairwise (fun x y _ _ h1 h2 => Int.le_antisymm h1 h2) ha hb hp
def Tr.words : Tr → List Str
  | .num _ => []
  | .wd x => [x]
  | .ch a b c d => a.words ++ (b.words ++ (c.words ++ (d.words ++ [])))
def Tr.nums : Tr → List Int
  | .num n => [n]
  | .wd _ => []
  | .ch a b c d => a.nums ++ (b.nums ++ (c.nums ++ (d.nums ++ [])))
def isS : V → Bool
  | .str _ => true
  | _ => false
theorem leaves_words : ∀ t : Tr, t.leaves.filter isS = t.words.map V.str
  | .num _ => rfl
  | .wd _ => rfl
  | .ch a b c d => by
    simp only [Tr.leaves, Tr.words, List.filter_append, List.map_append, leaves_words a, leaves_words b, leaves_words c, leaves_words d, List.filter_nil, List.map_nil]
theorem leaves_nums : ∀ t : Tr, t.leaves.filter (fun v => !isS v) = t.nums.map V.int
  | .num _ => rfl
  | .wd _ => rfl
  | .ch a b c d => by
    simp only [Tr.leaves, Tr.nums, List.filter_append, List.map_append, leaves_nums a, leaves_nums b, leaves_nums c, leaves_nums d, List.filter_nil, List.map_nil]
theorem leaves_kind : ∀ (t : Tr) (v : V), v ∈ t.leaves → (∃ x, v = .str x) ∨ ∃ n, v = .int n
  | .num n, v, h => .inr ⟨n, by simpa [Tr.leaves] using h⟩
  | .wd x, v, h => .inl ⟨x, by simpa [Tr.leaves] using h⟩
  | .ch a b c d, v, h => by
    simp only [Tr.leaves, List.mem_append, List.not_mem_nil, or_false] at h
    rcases h with h | h | h | h
    · exact leaves_kind a v h
    · exact leaves_kind b v h
    · exact leaves_kind c v h
    · exact leaves_kind d v h
theorem leaves_len : ∀ (t : Tr) (n : Nat), t.deep ≤ n + 1 → t.leaves.length ≤ 4 ^ n
  | .num _, n, _ => Nat.one_le_pow _ _ (by decide)
  | .wd _, n, _ => Nat.one_le_pow _ _ (by decide)
  | .ch a b c d, n, h => by
    simp only [Tr.deep] at h
    have z := a.deep_pos
    obtain ⟨n, rfl⟩ : ∃ m, n = m + 1 := ⟨n - 1, by omega⟩
    have h1 := leaves_len a n (by omega)
    have h2 := leaves_len b n (by omega)
    have h3 := leaves_len c n (by omega)
    have h4 := leaves_len d n (by omega)
    have e : 4 ^ (n + 1) = 4 * 4 ^ n := by rw [Nat.pow_succ, Nat.mul_comm]
    simp only [Tr.leaves, List.length_append, List.length_nil]
    omega
theorem leaves16 {t : Tr} (h : t.deep ≤ 3) : t.leaves.length ≤ 16 := leaves_len t 2 h
theorem text_len8 : ∀ {t : Tr} (n : Nat), t.fine → t.deep ≤ n + 1 → t.text.length ≤ 10 * 4 ^ n * 2 - 5
  | .num k, n, hf, _ => by
    have e : ((toString k : String) : Str).cps.toList.length = 1 := by rw [codes_digit hf.1 hf.2]; rfl
    have e' : (Tr.num k).text.length = 1 := by rw [← len_codes]; exact e
    have := Nat.one_le_pow n 4 (by decide)
    omega
  | .wd x, n, hf, _ => by
    have := Nat.one_le_pow n 4 (by decide)
    have h8 := hf.2.1
    show x.length ≤ _
    omega
  | .ch a b c d, n, hf, h => by
    simp only [Tr.deep] at h
    have z := a.deep_pos
    obtain ⟨n, rfl⟩ : ∃ m, n = m + 1 := ⟨n - 1, by omega⟩
    obtain ⟨fa, fb, fc, fd⟩ := hf
    have h1 := text_len8 n fa (by omega)
    have h2 := text_len8 n fb (by omega)
    have h3 := text_len8 n fc (by omega)
    have h4 := text_len8 n fd (by omega)
    have e : 4 ^ (n + 1) = 4 * 4 ^ n := by rw [Nat.pow_succ, Nat.mul_comm]
    have p := Nat.one_le_pow n 4 (by decide)
    have l : (Tr.ch a b c d).text.length = a.text.length + b.text.length + c.text.length + d.text.length + 5 := by
      rw [← len_codes, codes_ch]
      simp only [List.length_cons, List.length_append, List.length_nil, len_codes]
      omega
    omega
theorem text315 {t : Tr} (hf : t.fine) (h : t.deep ≤ 3) : t.text.length ≤ 315 := text_len8 2 hf h
/-- a Term's attributes, in the order in which they are stored -/
def tfs (v : V) (x : Str) (d : Nat) (k : Str) (l q r : Addr) : List (Str × V) :=
  putF "_constants" (.ref r) (putF "_variables" (.ref q) (putF "_leaves" (.ref l) (putF "_kind" (.str k) (putF "_depth" (.int d) (putF "_text" (.str x) (putF "_tree" v []))))))
section
variable (v : V) (x : Str) (d : Nat) (k : Str) (l q r : Addr)
theorem tfs_tree : (tfs v x d k l q r).lookup ("_tree" : Str) = some v := by
  unfold tfs
  rw [lookup_putF, if_neg (by decide +kernel), lookup_putF, if_neg (by decide +kernel), lookup_putF, if_neg (by decide +kernel), lookup_putF, if_neg (by decide +kernel), lookup_putF, if_neg (by decide +kernel), lookup_putF, if_neg (by decide +kernel), lookup_putF, if_pos rfl]
theorem tfs_text : (tfs v x d k l q r).lookup ("_text" : Str) = some (.str x) := by
  unfold tfs
  rw [lookup_putF, if_neg (by decide +kernel), lookup_putF, if_neg (by decide +kernel), lookup_putF, if_neg (by decide +kernel), lookup_putF, if_neg (by decide +kernel), lookup_putF, if_neg (by decide +kernel), lookup_putF, if_pos rfl]
theorem tfs_depth : (tfs v x d k l q r).lookup ("_depth" : Str) = some (.int d) := by
  unfold tfs
  rw [lookup_putF, if_neg (by decide +kernel), lookup_putF, if_neg (by decide +kernel), lookup_putF, if_neg (by decide +kernel), lookup_putF, if_neg (by decide +kernel), lookup_putF, if_pos rfl]
theorem tfs_kind : (tfs v x d k l q r).lookup ("_kind" : Str) = some (.str k) := by
  unfold tfs
  rw [lookup_putF, if_neg (by decide +kernel), lookup_putF, if_neg (by decide +kernel), lookup_putF, if_neg (by decide +kernel), lookup_putF, if_pos rfl]
theorem tfs_leaves : (tfs v x d k l q r).lookup ("_leaves" : Str) = some (.ref l) := by
  unfold tfs
  rw [lookup_putF, if_neg (by decide +kernel), lookup_putF, if_neg (by decide +kernel), lookup_putF, if_pos rfl]
theorem tfs_vars : (tfs v x d k l q r).lookup ("_variables" : Str) = some (.ref q) := by
  unfold tfs
  rw [lookup_putF, if_neg (by decide +kernel), lookup_putF, if_pos rfl]
theorem tfs_cons : (tfs v x d k l q r).lookup ("_constants" : Str) = some (.ref r) := by
  unfold tfs
  rw [lookup_putF, if_pos rfl]
/-- a name that is none of its attributes -/
def noFld (m : Str) : Bool := !(decide (m = "_constants") || decide (m = "_variables") || decide (m = "_leaves") || decide (m = "_kind") || decide (m = "_depth") || decide (m = "_text") || decide (m = "_tree"))
theorem tfs_no {m : Str} (h : noFld m = true) : (tfs v x d k l q r).lookup m = none := by
  unfold noFld at h
  simp only [Bool.not_eq_true', Bool.or_eq_false_iff, decide_eq_false_iff_not] at h
  obtain ⟨⟨⟨⟨⟨⟨h1, h2⟩, h3⟩, h4⟩, h5⟩, h6⟩, h7⟩ := h
  unfold tfs
  rw [lookup_putF, if_neg h1, lookup_putF, if_neg h2, lookup_putF, if_neg h3, lookup_putF, if_neg h4, lookup_putF, if_neg h5, lookup_putF, if_neg h6, lookup_putF, if_neg h7]
  rfl
end
/-- the kind of a tree -/
def Tr.kind : Tr → Str
  | .num _ => "constant"
  | .wd _ => "variable"
  | .ch _ _ _ _ => "choice"
/-- a Term of the tree t stands at a -/
structure TermAt (C : Addr) (H : Hp) (a : Addr) (t : Tr) : Prop where
  fine : t.fine
  deep : t.deep ≤ 3
  ob : ∃ (dx : Addr) (v : V) (l q r : Addr) (ws : List Str) (ns : List Int), H a = some (.ins C dx (tfs v t.text t.deep t.kind l q r)) ∧ TrAt H v t ∧ H l = some (.lst t.leaves) ∧ H q = some (.lst (ws.map V.str)) ∧ H r = some (.lst (ns.map V.int)) ∧
    ws.Perm (once t.words) ∧ PyProof.Rows.sortedS ws = true ∧ ns.Perm (once t.nums) ∧ ns.Pairwise (· ≤ ·)
theorem TermAt.same {C : Addr} {H H' : Hp} {a : Addr} {t : Tr} (h : TermAt C H a t) (s : Same H H') : TermAt C H' a t := by
  obtain ⟨f, d, dx, v, l, q, r, ws, ns, h1, h2, h3, h4, h5, h6⟩ := h
  exact ⟨f, d, dx, v, l, q, r, ws, ns, s _ _ h1, h2.same s, s _ _ h3, s _ _ h4, s _ _ h5, h6⟩
/-- all but the object at p stands as before -/
def SameX (p : Addr) (H H' : Hp) : Prop := ∀ b o, H b = some o → b ≠ p → H' b = some o
theorem SameX.refl (p : Addr) (H : Hp) : SameX p H H := fun _ _ h _ => h
theorem SameX.trans {p : Addr} {H H1 H2 : Hp} (a : SameX p H H1) (b : SameX p H1 H2) : SameX p H H2 := fun c o h n => b c o (a c o h n) n
theorem Same.x {p : Addr} {H H' : Hp} (s : Same H H') : SameX p H H' := fun b o h _ => s b o h
/-- all but the objects of Ds stands as before -/
def SameOff (Ds : List Addr) (H H' : Hp) : Prop := ∀ b o, H b = some o → b ∉ Ds → H' b = some o
theorem SameOff.refl (Ds : List Addr) (H : Hp) : SameOff Ds H H := fun _ _ h _ => h
theorem SameOff.trans {Ds : List Addr} {H H1 H2 : Hp} (a : SameOff Ds H H1) (b : SameOff Ds H1 H2) : SameOff Ds H H2 := fun c o h n => b c o (a c o h n) n
theorem Same.off {Ds : List Addr} {H H' : Hp} (s : Same H H') : SameOff Ds H H' := fun b o h _ => s b o h
theorem off_upd {Ds : List Addr} {H H1 : Hp} {D : Addr} {o : HO} (s : SameOff Ds H H1) (h : D ∈ Ds) : SameOff Ds H (upd H1 D o) := fun b u e n => by
  rw [upd_ne (fun q => n (by rw [q]; exact h))]
  exact s b u e n
theorem off_new {Ds : List Addr} {H H1 : Hp} {D : Addr} {o : HO} (s : SameOff Ds H H1) (h : H D = none) : SameOff Ds H (upd H1 D o) := fun b u e n => by
  rw [upd_ne (ne_of_none e h)]
  exact s b u e n
/-- lists stand at all of Ds -/
def Lists (Ds : List Addr) (H : Hp) : Prop := ∀ D ∈ Ds, ∃ xs, H D = some (.lst xs)
theorem TrAt.off {Ds : List Addr} {H H' : Hp} {v : V} {t : Tr} (h : TrAt H v t) (s : SameOff Ds H H') (hl : Lists Ds H) : TrAt H' v t := by
  induction h with
  | num n => exact .num n
  | wd x => exact .wd x
  | ch h _ _ _ _ a b c d => exact .ch (s _ _ h (fun e => by obtain ⟨xs, q⟩ := hl _ e; rw [h] at q; cases q)) a b c d
theorem TrAt.sameX {p : Addr} {H H' : Hp} {v : V} {t : Tr} (h : TrAt H v t) (s : SameX p H H') (hp : ∀ xs, H p ≠ some (.tup xs)) : TrAt H' v t := by
  induction h with
  | num n => exact .num n
  | wd x => exact .wd x
  | ch h _ _ _ _ a b c d => exact .ch (s _ _ h (fun e => hp _ (by rw [← e]; exact h))) a b c d
end TS
namespace TS
open PySem L2
theorem no_list {Ds : List Addr} {H : Hp} (hl : Lists Ds H) {q : Addr} {o : HO} (h : H q = some o) (n : ∀ xs, o ≠ .lst xs) : q ∉ Ds := fun m => by
  obtain ⟨xs, e⟩ := hl q m
  rw [h] at e
  injection e with e
  exact n xs e
theorem take_snoc {α : Type} {l : List α} {i : Nat} {x : α} (h : l[i]? = some x) : l.take (i + 1) = l.take i ++ [x] := by
  rw [List.take_succ, h]
  rfl
theorem snoc_at {α : Type} {l : List α} {x y : α} {j : Nat} (h : (l ++ [x])[j]? = some y) : l[j]? = some y ∨ (j = l.length ∧ y = x) := by
  by_cases c : j < l.length
  · rw [List.getElem?_append_left c] at h
    exact .inl h
  · rw [List.getElem?_append_right (by omega)] at h
    cases e : j - l.length with
    | zero =>
      rw [e] at h
      simp at h
      exact .inr ⟨by omega, h.symm⟩
    | succ n =>
      rw [e] at h
      simp at h
end TS
namespace TS
open PySem L2
def top (i : Nat) : Stmt := PySem.Challenge.pw_tiedsteps_k79_delays_refused.main.body.getD i (.Pass ⟨0, 0, 0, 0⟩)
abbrev sIsNum : Stmt := top 16
abbrev sAsc : Stmt := top 24
abbrev sText : Stmt := top 40
abbrev sDepth : Stmt := top 41
abbrev sKind : Stmt := top 42
abbrev sLeaves : Stmt := top 43
section
variable {P : Program} {w : World} {K : PySem.W.Frag} {mg : Str → Option Value} {base : Heap}
theorem bIsi : bootBuiltins "isinstance" = some (.builtin "isinstance") := by decide +kernel
/-! the kinds of a tree's value -/
theorem isT {H : Hp} {v : V} {t : Tr} (h : TrAt H v t) : ∃ (u : Value) (b : Bool), TyX K H v u ∧ PySem.W.kitOne K u (.type "tuple") = some b ∧ ((b = true ∧ ∃ a c d e, t = .ch a c d e) ∨ (b = false ∧ ((∃ n, v = .int n ∧ t = .num n) ∨ ∃ x, v = .str x ∧ t = .wd x))) := by
  cases h with
  | num n => exact ⟨_, false, .base (.int n), kit_ty (by decide +kernel), .inr ⟨rfl, .inl ⟨n, rfl, rfl⟩⟩⟩
  | wd x => exact ⟨_, false, .base (.str x), kit_ty (by decide +kernel), .inr ⟨rfl, .inr ⟨x, rfl, rfl⟩⟩⟩
  | ch h _ _ _ _ => exact ⟨_, true, .base (.tup h), kit_ty (by decide +kernel), .inl ⟨rfl, _, _, _, _, rfl⟩⟩
structure BltT (mg : Str → Option Value) : Prop where
  isi : mg "isinstance" = none
  tup : mg "tuple" = none
  str : mg "str" = none
  int : mg "int" = none
  bool : mg "bool" = none
  max : mg "max" = none
  set : mg "set" = none
  sorted : mg "sorted" = none
  len : mg "len" = none
  any : mg "any" = none
/-! _text_of -/
abbrev nmText : List Str := ["tree", "one", "other", "same", "unlike", "part"]
theorem scText : FnScope nmText ["tree"] (defScope sText) := ⟨rfl, rfl, rfl, by decide +kernel, rfl, by decide +kernel, by decide +kernel⟩
def spText (n : Nat) : Sp := fun vs H Q _ => ∃ (v : V) (t : Tr), vs = [v] ∧ TrAt H v t ∧ t.small ∧ t.deep ≤ n ∧ t.text.length ≤ 100000 ∧ ∀ H', Same H H' → Q (.str t.text) H'
theorem none_text {f : Addr} {fd : FuncData} : FnOk P w K mg base CX0 0 f fd ["tree"] (spText 0) := by
  have no : ∀ vs H Q E, ¬ spText 0 vs H Q E := fun vs H Q E h => by
    obtain ⟨v, t, _, _, _, hd, _⟩ := h
    have z := t.deep_pos
    omega
  exact ⟨fun vs H Q E h => absurd h (no vs H Q E), fun A outer s H args us vs Q E _ _ _ _ h => absurd h (no vs H Q E)⟩
theorem text_len {a b c d : Tr} (h : (Tr.ch a b c d).text.length ≤ 100000) : a.text.length + b.text.length + c.text.length + d.text.length + 5 ≤ 100000 := by
  simp only [Tr.text, Str.length_append] at h
  have e1 : Str.empty.length = 0 := by decide +kernel
  have e2 : ("(" : Str).length = 1 := by decide +kernel
  have e3 : ("=" : Str).length = 1 := by decide +kernel
  have e4 : ("?" : Str).length = 1 := by decide +kernel
  have e5 : (":" : Str).length = 1 := by decide +kernel
  have e6 : (")" : Str).length = 1 := by decide +kernel
  omega
theorem ok_text {n : Nat} {f : Addr} {fd : FuncData} (F : Fun K "_text_of" "_text_of" sText f fd) (T : BltT mg) (b : Binds K fd ["tree"] []) (m : mg "_text_of" = some (.ref f)) (G : FnOk P w K mg base CX0 n f fd ["tree"] (spText n)) :
    FnOk P w K mg base CX0 (n + 1) f fd ["tree"] (spText (n + 1)) := by
  refine F.ok scText (fun vs H Q E h => ?_) (fun cdv A outer s H vs Q E hr h => ?_)
  · obtain ⟨v, t, rfl, _⟩ := h
    rfl
  obtain ⟨v, t, rfl, ht, hsm, hd, hlen, q⟩ := h
  refine ⟨_, pss_cons (ps_if (pt_not (pt_val (pe_callB call_isi (by rfl) T.isi bIsi (pa_cons (pv 0) (pa_cons (pe_bltn (by rfl) T.tup (v := .ty "tuple") (by decide +kernel) rfl) pa_nil)))))
      (pss_one (ps_ret (pe_callTy (cr_or call_str_int SkE.call_str_str) (by rfl) T.str (by decide +kernel) (pa_cons (pv 0) pa_nil)))) pss_nil)
    (pss_cons (ps_asg (pe_lc (own := [("part", 5)]) (g := gName 5) (tt := tYes) (by rfl) scText.nd (pi_tup (pv 0)) (blkOk_by (own := [("part", 5)]) (N := nmText) (sc := defScope sText) (by decide +kernel)) (fun _ _ _ _ _ => pg_name (i := 5) scText.nd rfl (Or.inl rfl)) (fun _ _ _ _ _ => pts_nil)
        (fun _ _ _ _ _ => pe_call G hr rfl m F.kp b .nil pass0 (pa_cons (pv 5) pa_nil)))
      (pg_lst (by rfl) (pgs_cons (pg_name (i := 1) scText.nd rfl (.inl rfl)) (pgs_cons (pg_name (i := 2) scText.nd rfl (.inl rfl)) (pgs_cons (pg_name (i := 3) scText.nd rfl (.inl rfl)) (pgs_cons (pg_name (i := 4) scText.nd rfl (.inl rfl)) pgs_nil))))))
    (pss_one (ps_ret (pe_joined (.cons pe_str (.cons (pe_fmt (pv 1)) (.cons pe_str (.cons (pe_fmt (pv 2)) (.cons pe_str (.cons (pe_fmt (pv 3)) (.cons pe_str (.cons (pe_fmt (pv 4)) (.cons pe_str .nil))))))))))))), ?_⟩
  obtain ⟨u, c, hty, hk, hc⟩ := isT (K := K) ht
  refine ⟨_, rfl, _, _, _, _, _, rfl, .ty "tuple", hty, hk, _, rfl, ?_⟩
  rcases hc with ⟨rfl, a, b', c, d, rfl⟩ | ⟨rfl, hc⟩
  · refine iteF ?_
    cases ht with
    | ch hp ha hb hc hdd =>
      rename_i p y0 y1 y2 y3
      have tl := text_len hlen
      have dd : a.deep ≤ n ∧ b'.deep ≤ n ∧ c.deep ≤ n ∧ d.deep ≤ n := by
        simp only [Tr.deep] at hd
        omega
      obtain ⟨s1, s2, s3, s4⟩ := hsm
      refine ⟨_, rfl, p, rfl, ⟨_, SqT.of hp⟩, fun D hD => lc_mapT (ys := [.str a.text, .str b'.text, .str c.text, .str d.text]) hp rfl (by show 4 ≤ 1000; decide) hD (fun _ => rfl) (fun i x y H1 R hx hy s1' hR => ?_) (fun H1 g1 hD1 => ?_)⟩
      · refine ⟨_, rfl, ?_⟩
        rcases i with _ | _ | _ | _ | i
        · cases hx
          cases hy
          exact ⟨_, a, rfl, ha.same s1', s1, dd.1, by omega, hR⟩
        · cases hx
          cases hy
          exact ⟨_, b', rfl, hb.same s1', s2, dd.2.1, by omega, hR⟩
        · cases hx
          cases hy
          exact ⟨_, c, rfl, hc.same s1', s3, dd.2.2.1, by omega, hR⟩
        · cases hx
          cases hy
          exact ⟨_, d, rfl, hdd.same s1', s4, dd.2.2.2, by omega, hR⟩
        · simp at hx
      · have e1 : Str.empty.length = 0 := by decide +kernel
        have e2 : ("(" : Str).length = 1 := by decide +kernel
        have e3 : ("=" : Str).length = 1 := by decide +kernel
        have e4 : ("?" : Str).length = 1 := by decide +kernel
        have e5 : (":" : Str).length = 1 := by decide +kernel
        have e6 : (")" : Str).length = 1 := by decide +kernel
        have big : 100000 ≤ sizeLine := by decide
        refine ⟨D, _, rfl, SqL.of hD1, rfl, ?_⟩
        have L : ∀ {x y : Str}, x.length + y.length ≤ 100000 → (x ++ y).length ≤ sizeLine := fun {x y} h => by
          rw [Str.length_append]
          exact Nat.le_trans h big
        refine ⟨_, _, rfl, _, _, rfl, _, _, rfl, _, _, rfl, rfl, ?_⟩
        refine ⟨_, rfl, L (by omega), _, rfl, .inl ⟨_, rfl, by omega, _, rfl, L (by simp only [Str.length_append]; omega), ?_⟩⟩
        refine ⟨_, rfl, L (by simp only [Str.length_append]; omega), _, rfl, .inl ⟨_, rfl, by omega, _, rfl, L (by simp only [Str.length_append]; omega), ?_⟩⟩
        refine ⟨_, rfl, L (by simp only [Str.length_append]; omega), _, rfl, .inl ⟨_, rfl, by omega, _, rfl, L (by simp only [Str.length_append]; omega), ?_⟩⟩
        refine ⟨_, rfl, L (by simp only [Str.length_append]; omega), _, rfl, .inl ⟨_, rfl, by omega, _, rfl, L (by simp only [Str.length_append]; omega), ?_⟩⟩
        refine ⟨_, rfl, L (by simp only [Str.length_append]; omega), ?_⟩
        exact q H1 g1
  · refine iteT ?_
    rcases hc with ⟨k, rfl, rfl⟩ | ⟨x, rfl, rfl⟩
    · refine ⟨_, rfl, .inl ⟨k, rfl, ?_, q H (Same.refl H)⟩⟩
      have z : k.natAbs ≤ 9 := by
        have := hsm.1
        have := hsm.2
        omega
      exact Nat.lt_of_le_of_lt (Nat.log2_le_self _) (by omega)
    · exact ⟨_, rfl, .inr ⟨x, rfl, q H (Same.refl H)⟩⟩
end
end TS
namespace TS
open PySem L2
/-- [y for x in tuple for y in f(x)], f(x) a new list -/
theorem lc_flatT {K : PySem.W.Frag} {p D : Addr} {xs : List V} {zs : List (List V)} {k k1 : Nat} {te1 : TE} {σ : St} {H : Hp} {Qd : Hp → Prop} (hp : H p = some (.tup xs)) (hl : zs.length = xs.length) (h6 : zs.flatten.length ≤ 1000) (hD : H D = none)
    (hw : ∀ v, wipe ((wipe σ [k, k1]).set k v) [k, k1] = wipe σ [k, k1])
    (hw1 : ∀ v u, wipe ((wipe ((wipe σ [k, k1]).set k v) [k1]).set k1 u) [k1] = wipe ((wipe σ [k, k1]).set k v) [k1])
    (hat : ∀ v u, ((wipe ((wipe σ [k, k1]).set k v) [k1]).set k1 (some u))[k1]? = some (some u))
    (step : ∀ (i : Nat) (x : V) (z : List V) (H1 : Hp) (R : VK), xs[i]? = some x → zs[i]? = some z → Same H H1 → (∀ (r : Addr) H2, Same H1 H2 → H1 r = none → H2 r = some (.lst z) → R (.ref r) H2) → te1 ((wipe σ [k, k1]).set k (some x)) H1 R)
    (hd : ∀ H1, Same H H1 → H1 D = some (.lst zs.flatten) → Qd H1) :
    ∃ W : Nat → Nat → Hp → Prop, (∃ m, W 0 m (upd H D (.lst []))) ∧ ∀ i m H, W i m H →
  ((Itt K p).stop i H ∧ Qd H) ∨ ((Itt K p).go i H ∧ ∃ Nx : Hp → Prop, (∀ H', Nx H' → ∃ m', m' < m ∧ W (i + 1) m' H') ∧ ∀ x H', (Itt K p).yld i H x H' → gName k x (wipe σ [k, k1]) H' fun σ2 H2 => wipe σ2 [k, k1] = wipe σ [k, k1] ∧ tYes σ2 H2 fun b H3 =>
    if b = true then iList K te1 σ2 H3 fun J1 H4 => ∃ W1 : Nat → Nat → Hp → Prop, (∃ m, W1 0 m H4) ∧ ∀ j k2 H, W1 j k2 H →
      (J1.stop j H ∧ Nx H) ∨ (J1.go j H ∧ ∃ Nx1 : Hp → Prop, (∀ H', Nx1 H' → ∃ k', k' < k2 ∧ W1 (j + 1) k' H') ∧ ∀ x H', J1.yld j H x H' → gName k1 x (wipe σ2 [k1]) H' fun σ3 H5 => wipe σ3 [k1] = wipe σ2 [k1] ∧ tYes σ3 H5 fun b H6 =>
        if b = true then tVar k1 σ3 H6 fun y H7 => ∃ acc, H7 D = some (.lst acc) ∧ acc.length < sizeLine ∧ Nx1 (upd H7 D (.lst (acc ++ [y]))) else Nx1 H6)
    else Nx H3) := by
  refine ⟨fun i m H1 => m = xs.length - i ∧ i ≤ xs.length ∧ Same H H1 ∧ H1 D = some (.lst (zs.take i).flatten), ⟨xs.length, by simp, Nat.zero_le _, same_upd hD _, by rw [upd_same]; rfl⟩, ?_⟩
  rintro i m H1 ⟨rfl, hi, s1, d1⟩
  have q : SqT K H1 p xs := SqT.of (s1 _ _ hp)
  by_cases hlt : i < xs.length
  · refine .inr ⟨⟨xs, xs[i], q, by simp [hlt]⟩, fun H' => Same H H' ∧ H' D = some (.lst (zs.take (i + 1)).flatten), fun H' p' => ⟨xs.length - (i + 1), by omega, rfl, hlt, p'⟩, fun x H' y => ?_⟩
    obtain ⟨e, y⟩ := y
    subst e
    have hx := y xs q
    have hz : zs[i]? = some zs[i] := List.getElem?_eq_getElem (by omega)
    have tk : (zs.take (i + 1)).flatten = (zs.take i).flatten ++ zs[i] := by
      have e : zs.take (i + 1) = zs.take i ++ [zs[i]] := by
        rw [List.take_succ, hz]
        rfl
      rw [e, List.flatten_append]
      simp only [List.flatten_cons, List.flatten_nil, List.append_nil]
    have ln : (zs.take i).flatten.length + zs[i].length ≤ 1000 := by
      rw [← List.length_append, ← tk]
      refine Nat.le_trans ?_ h6
      have e : zs = zs.take (i + 1) ++ zs.drop (i + 1) := (List.take_append_drop _ _).symm
      conv => rhs; rw [e, List.flatten_append, List.length_append]
      exact Nat.le_add_right _ _
    generalize zs[i] = z at hz tk ln
    refine ⟨hw _, ?_⟩
    unfold tYes
    dsimp only
    rw [if_pos rfl]
    refine step i x z _ _ hx hz s1 fun r H2 s2 hr h2 => ?_
    have rD : r ≠ D := (ne_of_none d1 hr).symm
    refine ⟨r, rfl, ⟨_, SqL.of h2⟩, fun j m H5 => m = z.length - j ∧ j ≤ z.length ∧ Same H H5 ∧ H5 r = some (.lst z) ∧ H5 D = some (.lst ((zs.take i).flatten ++ z.take j)), ⟨z.length, by simp, Nat.zero_le _, s1.trans s2, h2, by rw [List.take_zero, List.append_nil]; exact s2 _ _ d1⟩, ?_⟩
    rintro j m H5 ⟨rfl, hj, s5, r5, d5⟩
    have q5 : SqL K H5 r z := SqL.of r5
    by_cases hlj : j < z.length
    · refine .inr ⟨⟨z, z[j], q5, by simp [hlj]⟩, fun H6 => Same H H6 ∧ H6 r = some (.lst z) ∧ H6 D = some (.lst ((zs.take i).flatten ++ z.take (j + 1))), fun H6 p6 => ⟨z.length - (j + 1), by omega, rfl, hlj, p6.1, p6.2.1, p6.2.2⟩, fun u H6 y6 => ?_⟩
      obtain ⟨e6, y6⟩ := y6
      subst e6
      have hu := y6 z q5
      refine ⟨hw1 _ _, iteT ⟨u, hat _ _, _, d5, ?_, ?_⟩⟩
      · rw [List.length_append, List.length_take]
        exact small1000 (by omega)
      · refine ⟨fun b o qb => ?_, ?_, ?_⟩
        · rw [upd_ne (ne_of_none qb hD)]
          exact s5 _ _ qb
        · rw [upd_ne rD]
          exact r5
        · rw [upd_same, List.take_succ, hu, List.append_assoc]
          rfl
    · have e : j = z.length := by omega
      subst e
      refine .inl ⟨⟨z, q5, Nat.le_refl _⟩, s5, ?_⟩
      rw [tk]
      rw [List.take_length] at d5
      exact d5
  · have e : i = xs.length := by omega
    subst e
    refine .inl ⟨⟨xs, q, Nat.le_refl _⟩, hd H1 s1 ?_⟩
    rw [List.take_of_length_le (by omega)] at d1
    exact d1
end TS
namespace TS
open PySem L2
section
variable {P : Program} {w : World} {K : PySem.W.Frag} {mg : Str → Option Value} {base : Heap}
/-! is_number -/
theorem scNum : FnScope ["value"] ["value"] (defScope sIsNum) := ⟨rfl, rfl, rfl, by decide +kernel, rfl, by decide +kernel, by decide +kernel⟩
def spNum (K : PySem.W.Frag) : Sp := fun vs H Q _ => ∃ (v : V) (t : Value) (b c : Bool), vs = [v] ∧ TyX K H v t ∧ PySem.W.kitOne K t (.type "int") = some b ∧ PySem.W.kitOne K t (.type "bool") = some c ∧ Q (.bl (b && !c)) H
theorem ok_num {f : Addr} {fd : FuncData} (F : Fun K "is_number" "is_number" sIsNum f fd) (T : BltT mg) : FnOk P w K mg base CX0 1 f fd ["value"] (spNum K) := by
  refine F.ok scNum (fun vs H Q E h => ?_) (fun cdv A outer s H vs Q E hr h => ?_)
  · obtain ⟨v, t, b, c, rfl, _⟩ := h
    rfl
  obtain ⟨v, t, b, c, rfl, ty, k1, k2, q⟩ := h
  refine ⟨_, pss_one (ps_ret (pe_and (pe_callB call_isi (by rfl) T.isi bIsi (pa_cons (pv 0) (pa_cons (pe_bltn (by rfl) T.int (v := .ty "int") (by decide +kernel) rfl) pa_nil)))
    (pe_one (pe_not (pe_callB call_isi (by rfl) T.isi bIsi (pa_cons (pv 0) (pa_cons (pe_bltn (by rfl) T.bool (v := .ty "bool") (by decide +kernel) rfl) pa_nil))))))), ?_⟩
  refine ⟨_, rfl, _, _, _, _, _, rfl, .ty "int", ty, k1, b, rfl, ?_⟩
  cases b with
  | false => exact iteF q
  | true => exact iteT ⟨_, rfl, _, _, _, _, _, rfl, .ty "bool", ty, k2, c, rfl, q⟩
/-! ascending -/
theorem scAsc : FnScope ["values"] ["values"] (defScope sAsc) := ⟨rfl, rfl, rfl, by decide +kernel, rfl, by decide +kernel, by decide +kernel⟩
def spAsc : Sp := fun vs H Q _ => ∃ (l : Addr) (xs : List V), vs = [V.ref l] ∧ H l = some (.lst xs) ∧ xs.length < 64 ∧
  ((∃ ss : List Str, xs = ss.map V.str ∧ ∀ (r : Addr) (H' : Hp) (out : List Str), Same H H' → H r = none → out.Perm (once ss) → PyProof.Rows.sortedS out = true → H' r = some (.lst (out.map V.str)) → Q (.ref r) H') ∨
   (∃ ns : List Int, xs = ns.map V.int ∧ ∀ (r : Addr) (H' : Hp) (out : List Int), Same H H' → H r = none → out.Perm (once ns) → out.Pairwise (· ≤ ·) → H' r = some (.lst (out.map V.int)) → Q (.ref r) H'))
theorem ok_asc {f : Addr} {fd : FuncData} (F : Fun K "ascending" "ascending" sAsc f fd) (T : BltT mg) : FnOk P w K mg base CX0 1 f fd ["values"] spAsc := by
  refine F.ok scAsc (fun vs H Q E h => ?_) (fun cdv A outer s H vs Q E hr h => ?_)
  · obtain ⟨l, xs, rfl, _⟩ := h
    rfl
  obtain ⟨l, xs, rfl, hl, h64, h⟩ := h
  refine ⟨_, pss_one (ps_ret (pe_callB (cr_sortX (by rfl)) (by rfl) T.sorted (by decide +kernel) (pa_cons (pe_callTy (cr_setL (by rfl)) (by rfl) T.set (by decide +kernel) (pa_cons (pv 0) pa_nil)) pa_nil))), ?_⟩
  refine ⟨_, rfl, l, xs, rfl, .of hl, (by show xs.length + 1 < 4096; omega), ?_⟩
  rcases h with ⟨ss, rfl, q⟩ | ⟨ns, rfl, q⟩
  · refine .inl ⟨ss, rfl, fun p hp => ⟨p, rfl, .inl ⟨once ss, upd_same, Nat.lt_of_le_of_lt (once_len ss) (by simpa using h64), fun out r pm so hr' => ?_⟩⟩⟩
    have g1 : Same H (upd H p (SetS P w p (once ss))) := same_upd hp _
    exact q r _ out (g1.trans (same_upd hr' _)) (g1.free hr') pm so upd_same
  · refine .inr ⟨ns, rfl, fun p hp => ⟨p, rfl, .inr ⟨once ns, upd_same, Nat.lt_of_le_of_lt (once_len ns) (by simpa using h64), fun out r pm so hr' => ?_⟩⟩⟩
    have g1 : Same H (upd H p (SetI P w p (once ns))) := same_upd hp _
    exact q r _ out (g1.trans (same_upd hr' _)) (g1.free hr') pm so upd_same
/-! _depth_of -/
abbrev nmDepth : List Str := ["tree", "part"]
theorem scDepth : FnScope nmDepth ["tree"] (defScope sDepth) := ⟨rfl, rfl, rfl, by decide +kernel, rfl, by decide +kernel, by decide +kernel⟩
def spDepth (n : Nat) : Sp := fun vs H Q _ => ∃ (v : V) (t : Tr), vs = [v] ∧ TrAt H v t ∧ t.deep ≤ n ∧ ∀ H', Same H H' → Q (.int (t.deep : Int)) H'
theorem none_depth {f : Addr} {fd : FuncData} : FnOk P w K mg base CX0 0 f fd ["tree"] (spDepth 0) := by
  have no : ∀ vs H Q E, ¬ spDepth 0 vs H Q E := fun vs H Q E h => by
    obtain ⟨v, t, _, _, hd, _⟩ := h
    have z := t.deep_pos
    omega
  exact ⟨fun vs H Q E h => absurd h (no vs H Q E), fun A outer s H args us vs Q E _ _ _ _ h => absurd h (no vs H Q E)⟩
theorem ok_depth {n : Nat} {f : Addr} {fd : FuncData} (F : Fun K "_depth_of" "_depth_of" sDepth f fd) (T : BltT mg) (b : Binds K fd ["tree"] []) (m : mg "_depth_of" = some (.ref f)) (G : FnOk P w K mg base CX0 n f fd ["tree"] (spDepth n)) :
    FnOk P w K mg base CX0 (n + 1) f fd ["tree"] (spDepth (n + 1)) := by
  refine F.ok scDepth (fun vs H Q E h => ?_) (fun cdv A outer s H vs Q E hr h => ?_)
  · obtain ⟨v, t, rfl, _⟩ := h
    rfl
  obtain ⟨v, t, rfl, ht, hd, q⟩ := h
  refine ⟨_, pss_cons (ps_if (pt_not (pt_val (pe_callB call_isi (by rfl) T.isi bIsi (pa_cons (pv 0) (pa_cons (pe_bltn (by rfl) T.tup (v := .ty "tuple") (by decide +kernel) rfl) pa_nil)))))
      (pss_one (ps_ret pe_int)) pss_nil)
    (pss_one (ps_ret (pe_op op_add pe_int (pe_callB (cr_max (by rfl)) (by rfl) T.max (by decide +kernel) (pa_cons
      (pe_lc (own := [("part", 1)]) (g := gName 1) (tt := tYes) (by rfl) scDepth.nd (pi_tup (pv 0)) (blkOk_by (own := [("part", 1)]) (N := nmDepth) (sc := defScope sDepth) (by decide +kernel)) (fun _ _ _ _ _ => pg_name (i := 1) scDepth.nd rfl (Or.inl rfl)) (fun _ _ _ _ _ => pts_nil)
        (fun _ _ _ _ _ => pe_call G hr rfl m F.kp b .nil pass0 (pa_cons (pv 1) pa_nil))) pa_nil))))), ?_⟩
  obtain ⟨u, c, hty, hk, hc⟩ := isT (K := K) ht
  refine ⟨_, rfl, _, _, _, _, _, rfl, .ty "tuple", hty, hk, _, rfl, ?_⟩
  rcases hc with ⟨rfl, a, b', c, d, rfl⟩ | ⟨rfl, hc⟩
  · refine iteF ?_
    cases ht with
    | ch hp ha hb hc hdd =>
      rename_i p y0 y1 y2 y3
      have dd : a.deep ≤ n ∧ b'.deep ≤ n ∧ c.deep ≤ n ∧ d.deep ≤ n := by
        simp only [Tr.deep] at hd
        omega
      refine ⟨_, rfl, p, rfl, ⟨_, SqT.of hp⟩, fun D hD => lc_mapT (ys := [.int a.deep, .int b'.deep, .int c.deep, .int d.deep]) hp rfl (by show 4 ≤ 1000; decide) hD (fun _ => rfl) (fun i x y H1 R hx hy s1' hR => ?_) (fun H1 g1 hD1 => ?_)⟩
      · refine ⟨_, rfl, ?_⟩
        rcases i with _ | _ | _ | _ | i
        · cases hx
          cases hy
          exact ⟨_, a, rfl, ha.same s1', dd.1, hR⟩
        · cases hx
          cases hy
          exact ⟨_, b', rfl, hb.same s1', dd.2.1, hR⟩
        · cases hx
          cases hy
          exact ⟨_, c, rfl, hc.same s1', dd.2.2.1, hR⟩
        · cases hx
          cases hy
          exact ⟨_, d, rfl, hdd.same s1', dd.2.2.2, hR⟩
        · simp at hx
      · refine ⟨D, [(a.deep : Int), b'.deep, c.deep, d.deep], rfl, SqL.of hD1, by show 0 < 4; decide, fun m hm hy => ?_⟩
        refine ⟨_, _, rfl, rfl, ?_⟩
        have e : (1 : Int) + m = (((Tr.ch a b' c d).deep : Nat) : Int) := by
          simp only [Tr.deep]
          have h1 := hy a.deep (by simp)
          have h2 := hy b'.deep (by simp)
          have h3 := hy c.deep (by simp)
          have h4 := hy d.deep (by simp)
          simp only [List.mem_cons, List.not_mem_nil, or_false] at hm
          omega
        have q1 := q H1 g1
        rw [← e] at q1
        exact q1
  · refine iteT ?_
    have e : (t.deep : Int) = 1 := by
      rcases hc with ⟨k, rfl, rfl⟩ | ⟨x, rfl, rfl⟩ <;> rfl
    rw [← e]
    exact q H (Same.refl H)
/-! _kind_of -/
theorem scKind : FnScope ["tree"] ["tree"] (defScope sKind) := ⟨rfl, rfl, rfl, by decide +kernel, rfl, by decide +kernel, by decide +kernel⟩
def spKind : Sp := fun vs H Q _ => ∃ (v : V) (t : Tr), vs = [v] ∧ TrAt H v t ∧ Q (.str t.kind) H
theorem ok_kind {f : Addr} {fd : FuncData} (F : Fun K "_kind_of" "_kind_of" sKind f fd) (T : BltT mg) : FnOk P w K mg base CX0 1 f fd ["tree"] spKind := by
  refine F.ok scKind (fun vs H Q E h => ?_) (fun cdv A outer s H vs Q E hr h => ?_)
  · obtain ⟨v, t, rfl, _⟩ := h
    rfl
  obtain ⟨v, t, rfl, ht, q⟩ := h
  refine ⟨_, pss_cons (ps_if (pt_val (pe_callB call_isi (by rfl) T.isi bIsi (pa_cons (pv 0) (pa_cons (pe_bltn (by rfl) T.tup (v := .ty "tuple") (by decide +kernel) rfl) pa_nil))))
      (pss_one (ps_ret pe_str)) pss_nil)
    (pss_one (ps_ret (pe_ifExp (pt_val (pe_callB call_isi (by rfl) T.isi bIsi (pa_cons (pv 0) (pa_cons (pe_bltn (by rfl) T.str (v := .ty "str") (by decide +kernel) rfl) pa_nil)))) pe_str pe_str))), ?_⟩
  cases ht with
  | num n => exact ⟨_, rfl, _, _, _, _, _, rfl, .ty "tuple", .base (.int n), kit_ty (b := "tuple") (r := false) (by decide +kernel), _, rfl, iteF ⟨_, rfl, _, _, _, _, _, rfl, .ty "str", .base (.int n), kit_ty (r := false) (by decide +kernel), _, rfl, iteF q⟩⟩
  | wd x => exact ⟨_, rfl, _, _, _, _, _, rfl, .ty "tuple", .base (.str x), kit_ty (r := false) (by decide +kernel), _, rfl, iteF ⟨_, rfl, _, _, _, _, _, rfl, .ty "str", .base (.str x), kit_ty (r := true) (by decide +kernel), _, rfl, iteT q⟩⟩
  | ch h _ _ _ _ => exact ⟨_, rfl, _, _, _, _, _, rfl, .ty "tuple", .base (.tup h), kit_ty (r := true) (by decide +kernel), _, rfl, iteT q⟩
/-! _leaves_of -/
abbrev nmLeaves : List Str := ["tree", "part", "leaf"]
theorem scLeaves : FnScope nmLeaves ["tree"] (defScope sLeaves) := ⟨rfl, rfl, rfl, by decide +kernel, rfl, by decide +kernel, by decide +kernel⟩
def spLeaves (n : Nat) : Sp := fun vs H Q _ => ∃ (v : V) (t : Tr), vs = [v] ∧ TrAt H v t ∧ t.deep ≤ n ∧ t.leaves.length ≤ 1000 ∧ ∀ (r : Addr) (H' : Hp), Same H H' → H r = none → H' r = some (.lst t.leaves) → Q (.ref r) H'
theorem none_leaves {f : Addr} {fd : FuncData} : FnOk P w K mg base CX0 0 f fd ["tree"] (spLeaves 0) := by
  have no : ∀ vs H Q E, ¬ spLeaves 0 vs H Q E := fun vs H Q E h => by
    obtain ⟨v, t, _, _, hd, _⟩ := h
    have z := t.deep_pos
    omega
  exact ⟨fun vs H Q E h => absurd h (no vs H Q E), fun A outer s H args us vs Q E _ _ _ _ h => absurd h (no vs H Q E)⟩
theorem ok_leaves {n : Nat} {f : Addr} {fd : FuncData} (F : Fun K "_leaves_of" "_leaves_of" sLeaves f fd) (T : BltT mg) (b : Binds K fd ["tree"] []) (m : mg "_leaves_of" = some (.ref f)) (G : FnOk P w K mg base CX0 n f fd ["tree"] (spLeaves n)) :
    FnOk P w K mg base CX0 (n + 1) f fd ["tree"] (spLeaves (n + 1)) := by
  refine F.ok scLeaves (fun vs H Q E h => ?_) (fun cdv A outer s H vs Q E hr h => ?_)
  · obtain ⟨v, t, rfl, _⟩ := h
    rfl
  obtain ⟨v, t, rfl, ht, hd, hlen, q⟩ := h
  refine ⟨_, pss_cons (ps_if (pt_not (pt_val (pe_callB call_isi (by rfl) T.isi bIsi (pa_cons (pv 0) (pa_cons (pe_bltn (by rfl) T.tup (v := .ty "tuple") (by decide +kernel) rfl) pa_nil)))))
      (pss_one (ps_ret (pe_lst (pa_cons (pv 0) pa_nil)))) pss_nil)
    (pss_one (ps_ret (pe_lc2 (own := [("part", 1), ("leaf", 2)]) (vs1 := [2]) (g := gName 1) (g1 := gName 2) (tt := tYes) (tt1 := tYes) (te := tVar 2) (wi1 := iList K (tCall (spLeaves n) [] E0 (tCons (tVar 1) tNil))) (by rfl) scLeaves.nd (pi_tup (pv 0)) (blkOk_by (own := [("part", 1), ("leaf", 2)]) (N := nmLeaves) (sc := defScope sLeaves) (by decide +kernel)) (by decide)
        (fun _ _ _ _ _ => pg_name (i := 1) scLeaves.nd rfl (Or.inl rfl)) (fun _ _ _ _ _ => pts_nil)
        (fun _ _ _ _ _ => pi_list (pe_call G hr rfl m F.kp b .nil pass0 (pa_cons (pv 1) pa_nil)))
        (fun _ _ _ _ _ => pg_name (i := 2) scLeaves.nd rfl (Or.inl rfl)) (fun _ _ _ _ _ => pts_nil) (fun _ _ _ _ _ => pv 2)))), ?_⟩
  obtain ⟨u, c, hty, hk, hc⟩ := isT (K := K) ht
  refine ⟨_, rfl, _, _, _, _, _, rfl, .ty "tuple", hty, hk, _, rfl, ?_⟩
  rcases hc with ⟨rfl, a, b', c, d, rfl⟩ | ⟨rfl, hc⟩
  · refine iteF ?_
    cases ht with
    | ch hp ha hb hc hdd =>
      rename_i p y0 y1 y2 y3
      have dd : a.deep ≤ n ∧ b'.deep ≤ n ∧ c.deep ≤ n ∧ d.deep ≤ n := by
        simp only [Tr.deep] at hd
        omega
      have ll : a.leaves.length ≤ 1000 ∧ b'.leaves.length ≤ 1000 ∧ c.leaves.length ≤ 1000 ∧ d.leaves.length ≤ 1000 := by
        simp only [Tr.leaves, List.length_append, List.length_nil] at hlen
        omega
      refine ⟨_, rfl, p, rfl, ⟨_, SqT.of hp⟩, fun D hD => lc_flatT (zs := [a.leaves, b'.leaves, c.leaves, d.leaves]) hp rfl hlen hD (fun _ => rfl) (fun _ _ => rfl) (fun _ _ => rfl) (fun i x y H1 R hx hy s1' hR => ?_) (fun H1 g1 hD1 => q D H1 g1 hD hD1)⟩
      refine ⟨_, rfl, ?_⟩
      rcases i with _ | _ | _ | _ | i
      · cases hx
        cases hy
        exact ⟨_, a, rfl, ha.same s1', dd.1, ll.1, hR⟩
      · cases hx
        cases hy
        exact ⟨_, b', rfl, hb.same s1', dd.2.1, ll.2.1, hR⟩
      · cases hx
        cases hy
        exact ⟨_, c, rfl, hc.same s1', dd.2.2.1, ll.2.2.1, hR⟩
      · cases hx
        cases hy
        exact ⟨_, d, rfl, hdd.same s1', dd.2.2.2, ll.2.2.2, hR⟩
      · simp at hx
  · refine iteT ?_
    refine ⟨_, rfl, (by show 1 ≤ sizeLine; decide), fun r hr' => ?_⟩
    have e : t.leaves = [v] := by
      rcases hc with ⟨k, rfl, rfl⟩ | ⟨x, rfl, rfl⟩ <;> rfl
    refine q r _ (same_upd hr' _) hr' ?_
    rw [upd_same, e]
end
end TS
namespace TS
open PySem L2
abbrev sWord : Stmt := top 34
abbrev sChoice : Stmt := top 35
abbrev sTree : Stmt := top 36
abbrev sTreeText : Stmt := top 37
/-- a loop over a text's signs -/
theorem for_strI {x : Str} {g : TG} {tb : TS} {D : Ends} {σ : St} {H : Hp} (Pv : Nat → St → Hp → Prop) (h0 : Pv 0 σ H)
    (hs : ∀ i c σ H, x.cps.toList[i]? = some c → Pv i σ H → g (.str ⟨#[c]⟩) σ H fun σ2 H2 => tb { D with nx := Pv (i + 1), ct := Pv (i + 1), bk := D.nx } σ2 H2) (hd : ∀ σ H, Pv x.cps.toList.length σ H → D.nx σ H) :
    ∃ W : Nat → Nat → St → Hp → Prop, (∃ m, W 0 m σ H) ∧ ∀ i m σ H, W i m σ H →
      ((Its x).stop i H ∧ D.nx σ H) ∨ ((Its x).go i H ∧ ∃ N : St → Hp → Prop, (∀ σ' H', N σ' H' → ∃ m', m' < m ∧ W (i + 1) m' σ' H') ∧ ∀ y H', (Its x).yld i H y H' → g y σ H' fun σ2 H2 => tb { D with nx := N, ct := N, bk := D.nx } σ2 H2) := by
  have el : x.cps.toList.length = x.cps.size := by simp
  refine ⟨fun i m σ H => m = x.cps.size - i ∧ i ≤ x.cps.size ∧ Pv i σ H, ⟨x.cps.size, by simp, Nat.zero_le _, h0⟩, ?_⟩
  rintro i m σ H ⟨rfl, hi, p⟩
  by_cases hlt : i < x.cps.size
  · refine .inr ⟨hlt, Pv (i + 1), fun σ' H' p' => ⟨x.cps.size - (i + 1), by omega, rfl, hlt, p'⟩, fun v H' y => ?_⟩
    obtain ⟨e, c, hc, ev⟩ := y
    subst e ev
    exact hs i c σ _ (by rw [← hc]; simp) p
  · have e : i = x.cps.size := by omega
    subst e
    exact .inl ⟨Nat.le_refl _, hd σ H (by rw [el]; exact p)⟩
section
variable {P : Program} {w : World} {K : PySem.W.Frag} {mg : Str → Option Value} {base : Heap}
/-- the module's constants -/
structure CstT (mg : Str → Option Value) : Prop where
  letters : ∃ t, mg "LETTERS" = some (.str "abcdefghijklmnopqrstuvwxyz" t)
  digits : ∃ t, mg "DIGITS" = some (.str "0123456789" t)
  signs : ∃ t, mg "PART_SIGNS" = some (.str "(=?:" t)
  most : ∃ t, mg "MOST_LETTERS" = some (.int 8 t)
  deep : ∃ t, mg "MOST_DEPTH" = some (.int 3 t)
/-! _word_end -/
theorem scWord : FnScope ["text", "at", "end"] ["text", "at"] (defScope sWord) := ⟨rfl, rfl, rfl, by decide +kernel, rfl, by decide +kernel, by decide +kernel⟩
def spWord : Sp := fun vs H Q _ => ∃ (z : Str) (i : Nat), vs = [.str z, .int i] ∧ z.length ≤ 100000 ∧ i ≤ z.length ∧ Q (.int (wend z.cps.toList i : Nat)) H
theorem wend_let {cs : List Nat} {i c : Nat} (h : cs[i]? = some c) (hc : isLet c = true) : wend cs i = wend cs (i + 1) := by
  have hi : i < cs.length := (List.getElem?_eq_some_iff.mp h).1
  have hg : cs[i] = c := (List.getElem?_eq_some_iff.mp h).2
  unfold wend
  rw [List.drop_eq_getElem_cons hi, hg, List.takeWhile_cons_of_pos hc, List.length_cons]
  omega
theorem wend_no {cs : List Nat} {i c : Nat} (h : cs[i]? = some c) (hc : isLet c = false) : wend cs i = i := by
  have hi : i < cs.length := (List.getElem?_eq_some_iff.mp h).1
  have hg : cs[i] = c := (List.getElem?_eq_some_iff.mp h).2
  unfold wend
  rw [List.drop_eq_getElem_cons hi, hg, List.takeWhile_cons_of_neg (by simp [hc])]
  rfl
theorem wend_end {cs : List Nat} {i : Nat} (h : cs.length ≤ i) : wend cs i = i := by
  unfold wend
  rw [List.drop_of_length_le h]
  rfl
theorem ok_word {f : Addr} {fd : FuncData} (F : Fun K "_word_end" "_word_end" sWord f fd) (T : BltT mg) (M : CstT mg) : FnOk P w K mg base CX0 1 f fd ["text", "at"] spWord := by
  refine F.ok scWord (fun vs H Q E h => ?_) (fun cdv A outer s H vs Q E hr h => ?_)
  · obtain ⟨z, i, rfl, _⟩ := h
    rfl
  obtain ⟨z, i, rfl, hz, hi, q⟩ := h
  obtain ⟨tl, ml⟩ := M.letters
  refine ⟨_, pss_cons (ps_set (i := 2) scWord.nd rfl (.inl rfl) (pv 1))
    (pss_cons (ps_while PassesOwn.never (PW.pt (pw_and (pt_cmpR op_lt (pv 2) (pe_callB call_len_str (by rfl) T.len PySem.boot_len (pa_cons (pv 0) pa_nil)) (nomark _))
        (pw_and1 (pt_cmpR op_in_sign (pe_ix ix_str (pv 0) (pv 2) (fun _ _ => rfl)) (pe_glob rfl ml (show RelV (.str "abcdefghijklmnopqrstuvwxyz") (.str "abcdefghijklmnopqrstuvwxyz" tl) from ⟨_, rfl⟩)) rfl)))) (pss_one (ps_aug (i := 2) scWord.nd rfl (.inl rfl) pe_int ip_add)))
    (pss_one (ps_ret (pv 2)))), ?_⟩
  have zc : z.cps.toList.length = z.length := len_codes z
  refine ⟨_, rfl, fun m σ' H' => ∃ j : Nat, σ' = [some (.str z), some (.int i), some (.int j)] ∧ H = H' ∧ j ≤ z.length ∧ m = z.length - j ∧ wend z.cps.toList j = wend z.cps.toList i, ⟨z.length - i, i, rfl, rfl, hi, rfl, rfl⟩, ?_⟩
  rintro m σ' H' ⟨j, rfl, rfl, hj, rfl, ew⟩
  have big : z.length ≤ sizeLine := Nat.le_trans hz (by decide)
  refine ⟨_, rfl, _, rfl, z, rfl, big, _, _, rfl, rfl, _, rfl, ?_⟩
  refine ite2 (fun c => ?_) (fun c => ?_)
  · have hlt : j < z.length := by
      have := of_decide_eq_true c
      omega
    obtain ⟨x, hx⟩ : ∃ x, z.cps.toList[j]? = some x := ⟨_, List.getElem?_eq_getElem (by omega)⟩
    refine ⟨_, rfl, _, rfl, z, _, x, rfl, rfl, big, atI_nat hx, x, _, rfl, rfl, _, rfl, ?_⟩
    refine ite2 (fun c1 => ?_) (fun c1 => ?_)
    · refine ⟨fun σ' H' => σ' = [some (.str z), some (.int i), some (.int ((j + 1 : Nat) : Int))] ∧ H = H', ?_, ?_⟩
      · rintro σ2 H2 ⟨rfl, rfl⟩
        exact ⟨z.length - (j + 1), by omega, j + 1, rfl, rfl, hlt, rfl, by rw [← wend_let hx c1]; exact ew⟩
      · exact ⟨_, rfl, _, _, rfl, rfl, rfl, rfl⟩
    · have e : wend z.cps.toList j = j := wend_no hx (by simpa [isLet] using c1)
      rw [← ew, e] at q
      exact ⟨_, rfl, q⟩
  · have hge : z.length ≤ j := by
      have : ¬ ((j : Int) < (z.length : Int)) := fun h => c (decide_eq_true h)
      omega
    have e : wend z.cps.toList j = j := wend_end (by omega)
    rw [← ew, e] at q
    refine iteF ?_
    exact ⟨_, rfl, q⟩
/-! _choice_at and _tree_at -/
/-- what the reader hands back -/
def TreeRes (H : Hp) (o : Option (Tr × Nat)) (Q : VK) : Prop := match o with
  | none => ∀ H', Same H H' → Q .non H'
  | some (t, e) => ∀ (H' : Hp) (p : Addr) (v : V), Same H H' → H p = none → H' p = some (.tup [v, .int e]) → TrAt H' v t → Q (.ref p) H'
def spTree (r : Nat) : Sp := fun vs H Q _ => ∃ (z : Str) (i room : Nat), vs = [.str z, .int i, .int room] ∧ z.length ≤ 100000 ∧ i ≤ 200000 ∧ room ≤ r ∧ TreeRes H (treeAt z room i) Q
def spChoice (r : Nat) : Sp := fun vs H Q _ => ∃ (z : Str) (i room : Nat), vs = [.str z, .int i, .int ((room + 1 : Nat) : Int)] ∧ z.length ≤ 100000 ∧ i ≤ z.length ∧ room + 1 ≤ r ∧ TreeRes H (choiceAt (treeAt z room) z.cps.toList i) Q
theorem none_choice {f : Addr} {fd : FuncData} {k : Nat} : FnOk P w K mg base CX0 k f fd ["text", "at", "room"] (spChoice 0) := by
  have no : ∀ vs H Q E, ¬ spChoice 0 vs H Q E := fun vs H Q E h => by
    obtain ⟨z, i, room, _, _, _, hr, _⟩ := h
    omega
  exact ⟨fun vs H Q E h => absurd h (no vs H Q E), fun A outer s H args us vs Q E _ _ _ _ h => absurd h (no vs H Q E)⟩
theorem scTree : FnScope ["text", "at", "room", "end"] ["text", "at", "room"] (defScope sTree) := ⟨rfl, rfl, rfl, by decide +kernel, rfl, by decide +kernel, by decide +kernel⟩
theorem sign_eq {c : Nat} {y : Str} {d : Nat} (hy : y.cps.toList = [d]) : decide (V.str ⟨#[c]⟩ = V.str y) = decide (c = d) := by
  have h : (V.str ⟨#[c]⟩ = V.str y) ↔ c = d := by
    constructor
    · intro e
      injection e with e
      rw [← e] at hy
      simpa using hy
    · intro e
      rw [e]
      congr 1
      exact str_ext (by rw [hy])
  exact decide_eq_decide.mpr h
theorem treeAt_none {z : Str} {r i : Nat} (h : z.cps.toList.length ≤ i) : treeAt z r i = none := by
  cases r with
  | zero => rfl
  | succ r =>
    unfold treeAt
    rw [List.getElem?_eq_none h]
theorem int_digit {c : Nat} (h : isDig c = true) : PySem.intText? ⟨#[c]⟩ = some ((c : Int) - 48) := by
  have h' := isDig_iff.mp h
  have e : c = 48 ∨ c = 49 ∨ c = 50 ∨ c = 51 ∨ c = 52 ∨ c = 53 ∨ c = 54 ∨ c = 55 ∨ c = 56 ∨ c = 57 := by omega
  rcases e with rfl | rfl | rfl | rfl | rfl | rfl | rfl | rfl | rfl | rfl <;> decide +kernel
theorem wend_le (cs : List Nat) (i : Nat) (h : i ≤ cs.length) : wend cs i ≤ cs.length := by
  unfold wend
  have h1 : ((cs.drop i).takeWhile isLet).length ≤ (cs.drop i).length := (List.takeWhile_sublist _).length_le
  rw [List.length_drop] at h1
  omega
theorem wend_ge (cs : List Nat) (i : Nat) : i ≤ wend cs i := Nat.le_add_right _ _
theorem ok_tree {n r : Nat} {f fw fc : Addr} {fd fdw fdc : FuncData} (F : Fun K "_tree_at" "_tree_at" sTree f fd) (T : BltT mg) (M : CstT mg)
    (FW : Fun K "_word_end" "_word_end" sWord fw fdw) (bw : Binds K fdw ["text", "at"] []) (mw : mg "_word_end" = some (.ref fw)) (FC : Fun K "_choice_at" "_choice_at" sChoice fc fdc) (bc : Binds K fdc ["text", "at", "room"] []) (mc : mg "_choice_at" = some (.ref fc))
    (GC : FnOk P w K mg base CX0 (n + 1) fc fdc ["text", "at", "room"] (spChoice r)) : FnOk P w K mg base CX0 (n + 2) f fd ["text", "at", "room"] (spTree r) := by
  refine F.ok scTree (fun vs H Q E h => ?_) (fun cdv A outer s H vs Q E hr h => ?_)
  · obtain ⟨z, i, room, rfl, _⟩ := h
    rfl
  obtain ⟨z, i, room, rfl, hz, hi, hroom, q⟩ := h
  obtain ⟨td, md⟩ := M.digits
  obtain ⟨tm, mm⟩ := M.most
  have GW : FnOk P w K mg base CX0 1 fw fdw ["text", "at"] spWord := ok_word FW T M
  refine ⟨_, pss_cons (ps_if (PW.pt (pw_or (pt_cmpR op_lt (pv 2) pe_int (nomark _)) (pw_or1 (pt_cmpR op_ge (pv 1) (pe_callB call_len_str (by rfl) T.len PySem.boot_len (pa_cons (pv 0) pa_nil)) (nomark _))))) (pss_one (ps_ret pe_non)) pss_nil)
    (pss_cons (ps_if (pt_cmpR op_eq (pe_ix ix_str (pv 0) (pv 1) (fun _ _ => rfl)) pe_str (nomark _)) (pss_one (ps_ret (pe_call GC hr rfl mc FC.kp bc .nil pass0 (pa_cons (pv 0) (pa_cons (pv 1) (pa_cons (pv 2) pa_nil)))))) pss_nil)
    (pss_cons (ps_if (pt_cmpR op_in_sign (pe_ix ix_str (pv 0) (pv 1) (fun _ _ => rfl)) (pe_glob rfl md (show RelV (.str "0123456789") (.str "0123456789" td) from ⟨_, rfl⟩)) rfl)
      (pss_one (ps_ret (pe_tup (pa_cons (pe_callTy call_int_str (by rfl) T.int (by decide +kernel) (pa_cons (pe_ix ix_str (pv 0) (pv 1) (fun _ _ => rfl)) pa_nil)) (pa_cons (pe_op op_add (pv 1) pe_int) pa_nil))))) pss_nil)
    (pss_cons (ps_set (i := 3) scTree.nd rfl (.inl rfl) (pe_call GW (hr.mono (by omega)) rfl mw FW.kp bw .nil pass0 (pa_cons (pv 0) (pa_cons (pv 1) pa_nil))))
    (pss_cons (ps_if (pt_chain op_le op_le pe_int (pe_op op_sub (pv 3) (pv 1)) (pe_glob rfl mm (show RelV (.int 8) (.int 8 tm) from ⟨_, rfl⟩))) (pss_one (ps_ret (pe_tup (pa_cons (pe_slice sl_str (pv 0) (po_some (pv 1)) (po_some (pv 3))) (pa_cons (pv 3) pa_nil))))) pss_nil)
    (pss_one (ps_ret pe_non)))))), ?_⟩
  have zc : z.cps.toList.length = z.length := len_codes z
  have big : z.length ≤ sizeLine := Nat.le_trans hz (by decide)
  refine ⟨_, rfl, _, _, rfl, rfl, _, rfl, ?_⟩
  cases room with
  | zero =>
    refine iteT ?_
    refine iteT ?_
    exact q H (Same.refl H)
  | succ room =>
    have e0 : decide ((((room + 1 : Nat)) : Int) < 1) = false := decide_eq_false (by omega)
    rw [e0]
    refine iteF ⟨_, rfl, _, rfl, z, rfl, big, _, _, rfl, rfl, _, rfl, ?_⟩
    by_cases hlt : i < z.length
    · rw [show decide ((i : Int) ≥ (z.length : Int)) = false from decide_eq_false (by omega)]
      refine iteF ?_
      obtain ⟨x, hx⟩ : ∃ x, z.cps.toList[i]? = some x := ⟨_, List.getElem?_eq_getElem (by omega)⟩
      have q' := q
      unfold treeAt at q'
      rw [hx] at q'
      simp only at q'
      have ix : ∀ {R : V → Hp → Prop}, R (.str ⟨#[x]⟩) H → (∃ v, some (some (V.str z)) = some (some v) ∧ ∃ v_1, some (some (V.int (i : Int))) = some (some v_1) ∧ rIxS v v_1 H R) := fun h => ⟨_, rfl, _, rfl, z, _, x, rfl, rfl, big, atI_nat hx, h⟩
      refine ix ⟨rfl, _, rfl, ?_⟩
      rw [sign_eq (y := "(") (d := 40) (by decide +kernel)]
      refine ite2 (fun c => ?_) (fun c => ?_)
      · have c := of_decide_eq_true c
        rw [if_pos c] at q'
        exact ⟨_, rfl, _, rfl, _, rfl, z, i, room, rfl, hz, by omega, hroom, q'⟩
      · have c : ¬ x = 40 := fun e => c (decide_eq_true e)
        rw [if_neg c] at q'
        refine ix ⟨x, _, rfl, rfl, _, rfl, ?_⟩
        refine ite2 (fun c1 => ?_) (fun c1 => ?_)
        · have c1 : isDig x = true := c1
          rw [if_pos c1] at q'
          refine ix ⟨_, _, rfl, int_digit c1, by show 1 ≤ 640; decide, _, rfl, _, _, rfl, rfl, by show 2 ≤ sizeLine; decide, fun p hp => ?_⟩
          exact q' _ p _ (same_upd hp _) hp upd_same (.num _)
        · have c1 : ¬ isDig x = true := c1
          rw [if_neg c1] at q'
          refine ⟨_, rfl, _, rfl, z, i, rfl, hz, by omega, ?_⟩
          have g1 := wend_ge z.cps.toList i
          have g2 := wend_le z.cps.toList i (by omega)
          generalize wend z.cps.toList i = e at q' g1 g2
          refine ⟨_, rfl, _, rfl, _, _, rfl, rfl, _, _, rfl, rfl, _, rfl, ?_⟩
          by_cases c2 : 1 ≤ e - i ∧ e - i ≤ 8
          · rw [if_pos c2] at q'
            rw [show decide ((1 : Int) ≤ (e : Int) - (i : Int)) = true from decide_eq_true (by omega)]
            refine iteT ⟨_, _, rfl, rfl, _, rfl, ?_⟩
            rw [show decide ((e : Int) - (i : Int) ≤ 8) = true from decide_eq_true (by omega)]
            refine iteT ?_
            refine ⟨_, rfl, ?_⟩
            refine ⟨_, rfl, _, rfl, ?_⟩
            refine ⟨_, rfl, _, rfl, z, rfl, big, _, rfl, by show 2 ≤ sizeLine; decide, fun p hp => ?_⟩
            exact q' _ p _ (same_upd hp _) hp upd_same (.wd _)
          · rw [if_neg c2] at q'
            refine ite2 (fun c3 => ⟨_, _, rfl, rfl, _, rfl, ?_⟩) (fun c3 => ⟨_, rfl, ?_⟩)
            · have c3 := of_decide_eq_true c3
              rw [show decide ((e : Int) - (i : Int) ≤ 8) = false from decide_eq_false (by omega)]
              refine iteF ?_
              exact q' H (Same.refl H)
            · refine iteF ?_
              exact q' H (Same.refl H)
    · rw [show decide ((i : Int) ≥ (z.length : Int)) = true from decide_eq_true (by omega)]
      refine iteT ?_
      rw [treeAt_none (by omega)] at q
      exact q H (Same.refl H)
end
end TS
namespace TS
open PySem L2
theorem cut1 (z : Str) (i : Nat) : (cutS z (some (i : Int)) (some ((i : Int) + 1))).cps.toList = (z.cps.toList.drop i).take 1 := by
  have zc : z.cps.toList.length = z.length := len_codes z
  have e1 : HT.sIx z.length 0 (some (i : Int)) = min i z.length := HT.sIx_nat _ _ _
  have e2 : HT.sIx z.length z.length (some ((i : Int) + 1)) = min (i + 1) z.length := HT.sIx_nat _ _ (i + 1)
  unfold cutS
  rw [e1, e2]
  by_cases h : i < z.length
  · rw [Nat.min_eq_left (by omega), Nat.min_eq_left (by omega), Nat.add_sub_cancel_left]
  · rw [Nat.min_eq_right (by omega), Nat.min_eq_right (by omega), Nat.sub_self, List.drop_of_length_le (by omega), List.drop_of_length_le (by omega)]
    rfl
theorem cut1_eq {z : Str} {i d : Nat} {y : Str} (hy : y.cps.toList = [d]) : (cutS z (some (i : Int)) (some ((i : Int) + 1)) = y) ↔ z.cps.toList[i]? = some d := by
  have h := cut1 z i
  constructor
  · intro e
    rw [e, hy] at h
    have : (z.cps.toList.drop i)[0]? = some d := by
      cases hq : z.cps.toList.drop i with
      | nil => rw [hq] at h; simp at h
      | cons c cs =>
        rw [hq] at h
        simp at h
        simp [h]
    rw [List.getElem?_drop] at this
    simpa using this
  · intro e
    apply str_ext
    have hi : i < z.cps.toList.length := (List.getElem?_eq_some_iff.mp e).1
    have hg : z.cps.toList[i] = d := (List.getElem?_eq_some_iff.mp e).2
    rw [h, hy, List.drop_eq_getElem_cons hi, hg]
    rfl
theorem cut1_dec {z : Str} {i d : Nat} {y : Str} (hy : y.cps.toList = [d]) : decide (V.str (cutS z (some (i : Int)) (some ((i : Int) + 1))) = V.str y) = decide (z.cps.toList[i]? = some d) := by
  refine decide_eq_decide.mpr ⟨fun e => ?_, fun e => ?_⟩
  · injection e with e
    exact (cut1_eq hy).mp e
  · rw [(cut1_eq hy).mpr e]
/-- a list that is changed changes no tree -/
theorem trAt_upd {H : Hp} {v : V} {t : Tr} {l : Addr} {xs : List V} {o : HO} (h : TrAt H v t) (hl : H l = some (.lst xs)) : TrAt (upd H l o) v t := by
  induction h with
  | num n => exact .num n
  | wd x => exact .wd x
  | ch h _ _ _ _ a b c d => exact .ch (by rw [upd_ne (ne_of h hl (by intro z; cases z))]; exact h) a b c d
/-- values that are the trees of a list, one by one -/
def TrsAt (H : Hp) (vs : List V) (ts : List Tr) : Prop := vs.length = ts.length ∧ ∀ (i : Nat) v t, vs[i]? = some v → ts[i]? = some t → TrAt H v t
theorem TrsAt.nil {H : Hp} : TrsAt H [] [] := ⟨rfl, fun i v t h _ => by simp at h⟩
theorem TrsAt.same {H H' : Hp} {vs : List V} {ts : List Tr} (h : TrsAt H vs ts) (s : Same H H') : TrsAt H' vs ts := ⟨h.1, fun i v t a b => (h.2 i v t a b).same s⟩
theorem TrsAt.snoc {H : Hp} {vs : List V} {ts : List Tr} {v : V} {t : Tr} (h : TrsAt H vs ts) (g : TrAt H v t) : TrsAt H (vs ++ [v]) (ts ++ [t]) := by
  refine ⟨by simp [h.1], fun i a b ha hb => ?_⟩
  by_cases hi : i < vs.length
  · rw [List.getElem?_append_left hi] at ha
    rw [List.getElem?_append_left (by rw [← h.1]; exact hi)] at hb
    exact h.2 i a b ha hb
  · rw [List.getElem?_append_right (by omega)] at ha
    rw [List.getElem?_append_right (by rw [← h.1]; omega), ← h.1] at hb
    cases hq : i - vs.length with
    | zero =>
      rw [hq] at ha hb
      simp at ha hb
      subst ha hb
      exact g
    | succ k =>
      rw [hq] at ha
      simp at ha
theorem TrsAt.four {H : Hp} {vs : List V} {a b c d : Tr} (h : TrsAt H vs [a, b, c, d]) : ∃ u v y z, vs = [u, v, y, z] ∧ TrAt H u a ∧ TrAt H v b ∧ TrAt H y c ∧ TrAt H z d := by
  obtain ⟨hl, h⟩ := h
  match vs, hl with
  | [u, v, y, z], _ => exact ⟨u, v, y, z, rfl, h 0 _ _ rfl rfl, h 1 _ _ rfl rfl, h 2 _ _ rfl rfl, h 3 _ _ rfl rfl⟩
theorem partsAt_len {p : Nat → Option (Tr × Nat)} {cs : List Nat} : ∀ {ss : List Nat} {i : Nat} {ts : List Tr} {e : Nat}, partsAt p cs ss i = some (ts, e) → ts.length = ss.length
  | [], i, ts, e, h => by
    simp only [partsAt, Option.some.injEq, Prod.mk.injEq] at h
    rw [← h.1]
    rfl
  | s :: ss, i, ts, e, h => by
    unfold partsAt at h
    split at h
    · split at h
      · cases h
      · split at h
        · cases h
        · rename_i h2
          simp only [Option.some.injEq, Prod.mk.injEq] at h
          rw [← h.1, List.length_cons, List.length_cons, partsAt_len h2]
    · cases h
section
variable {P : Program} {w : World} {K : PySem.W.Frag} {mg : Str → Option Value} {base : Heap}
abbrev nmChoice : List Str := ["text", "at", "room", "parts", "sign", "found", "part"]
theorem scChoice : FnScope nmChoice ["text", "at", "room"] (defScope sChoice) := ⟨rfl, rfl, rfl, by decide +kernel, rfl, by decide +kernel, by decide +kernel⟩
theorem sign_codes : ("(=?:" : Str).cps.toList = [40, 61, 63, 58] := by decide +kernel
theorem isNon_dec {v : V} {p : Addr} (h : v = .ref p) : decide (v = V.non) = false := by
  subst h
  exact decide_eq_false (fun e => nomatch e)
theorem ok_choice {n r : Nat} {f ft : Addr} {fd fdt : FuncData} (F : Fun K "_choice_at" "_choice_at" sChoice f fd) (T : BltT mg) (M : CstT mg)
    (FT : Fun K "_tree_at" "_tree_at" sTree ft fdt) (bt : Binds K fdt ["text", "at", "room"] []) (mt : mg "_tree_at" = some (.ref ft))
    (GT : FnOk P w K mg base CX0 n ft fdt ["text", "at", "room"] (spTree r)) : FnOk P w K mg base CX0 (n + 1) f fd ["text", "at", "room"] (spChoice (r + 1)) := by
  refine F.ok scChoice (fun vs H Q E h => ?_) (fun cdv A outer s H vs Q E hr h => ?_)
  · obtain ⟨z, i, room, rfl, _⟩ := h
    rfl
  obtain ⟨z, i, room, rfl, hz, hi, hroom, q⟩ := h
  obtain ⟨ts, ms⟩ := M.signs
  refine ⟨_, pss_cons (ps_set (i := 3) scChoice.nd rfl (.inl rfl) (pe_lst pa_nil))
    (pss_cons (ps_for PassesOwn.never rfl (pi_str (pe_glob rfl ms (show RelV (.str "(=?:") (.str "(=?:" ts) from ⟨_, rfl⟩))) (pg_name (i := 4) scChoice.nd rfl (.inl rfl))
      (pss_cons (ps_set (i := 5) scChoice.nd rfl (.inl rfl) (pe_ifExp (pt_cmpR op_eq (pe_slice sl_str (pv 0) (po_some (pv 1)) (po_some (pe_op op_add (pv 1) pe_int))) (pv 4) (nomark _))
          (pe_call GT hr rfl mt FT.kp bt .nil pass0 (pa_cons (pv 0) (pa_cons (pe_op op_add (pv 1) pe_int) (pa_cons (pe_op op_sub (pv 2) pe_int) pa_nil)))) pe_non))
      (pss_cons (ps_if (pt_cmpR op_isN (pv 5) pe_non (nomark _)) (pss_one (ps_ret pe_non)) pss_nil)
      (pss_cons (ps_asg (pv 5) (pg_tup (by rfl) (pgs_cons (pg_name (i := 6) scChoice.nd rfl (.inl rfl)) (pgs_cons (pg_name (i := 1) scChoice.nd rfl (.inl rfl)) pgs_nil))))
      (pss_one (ps_expr (pe_bm PySem.F.plainAttrs_list PySem.F.slot_list_append PySem.F.type_list_append mt_append (pv 3) (pa_cons (pv 6) pa_nil))))))))
    (pss_cons (ps_if (pt_cmpR op_ne (pe_slice sl_str (pv 0) (po_some (pv 1)) (po_some (pe_op op_add (pv 1) pe_int))) pe_str (nomark _)) (pss_one (ps_ret pe_non)) pss_nil)
    (pss_one (ps_ret (pe_tup (pa_cons (pe_callTy call_tuple_of (by rfl) T.tup (by decide +kernel) (pa_cons (pv 3) pa_nil)) (pa_cons (pe_op op_add (pv 1) pe_int) pa_nil))))))), ?_⟩
  have zc : z.cps.toList.length = z.length := len_codes z
  have big : z.length ≤ sizeLine := Nat.le_trans hz (by decide)
  refine ⟨by show 0 ≤ sizeLine; decide, fun l hl => ?_⟩
  refine ⟨_, rfl, for_strI (fun k σ' H1 => ∃ (j : Nat) (done : List Tr) (vs : List V) (s4 s5 s6 : Option V), σ' = [some (.str z), some (.int j), some (.int ((room + 1 : Nat) : Int)), some (.ref l), s4, s5, s6] ∧ Same H H1 ∧ H1 l = some (.lst vs) ∧ TrsAt H1 vs done ∧ done.length = k ∧
      partsAt (treeAt z room) z.cps.toList [40, 61, 63, 58] i = (partsAt (treeAt z room) z.cps.toList ([40, 61, 63, 58].drop k) j).map fun x => (done ++ x.1, x.2)) ?_ ?_ ?_⟩
  · refine ⟨i, [], [], none, none, none, rfl, same_upd hl _, upd_same, TrsAt.nil, rfl, ?_⟩
    simp only [List.drop_zero, List.nil_append]
    cases partsAt (treeAt z room) z.cps.toList [40, 61, 63, 58] i with
    | none => rfl
    | some x => rfl
  · rintro k c σ' H1 hc ⟨j, done, vs, s4, s5, s6, rfl, s1, l1, tr, hk, ep⟩
    rw [sign_codes] at hc
    have hk4 : k < 4 := (List.getElem?_eq_some_iff.mp hc).1
    have hdr : [40, 61, 63, 58].drop k = c :: [40, 61, 63, 58].drop (k + 1) := by
      rw [List.drop_eq_getElem_cons (by exact hk4)]
      have := (List.getElem?_eq_some_iff.mp hc).2
      rw [this]
    generalize e0 : partsAt (treeAt z room) z.cps.toList [40, 61, 63, 58] i = L at ep
    rw [hdr] at ep
    unfold partsAt at ep
    have hcc : (⟨#[c]⟩ : Str).cps.toList = [c] := rfl
    refine ⟨_, rfl, _, rfl, _, rfl, _, rfl, _, _, rfl, rfl, _, rfl, z, rfl, big, _, rfl, rfl, _, rfl, ?_⟩
    rw [cut1_dec hcc]
    have non : choiceAt (treeAt z room) z.cps.toList i = none → ∀ H', Same H H' → Q .non H' := fun e => by
      rw [e] at q
      exact q
    refine ite2 (fun cc => ?_) (fun cc => ?_)
    · have cc := of_decide_eq_true cc
      rw [if_pos cc] at ep
      have hj : j < z.length := by
        have := (List.getElem?_eq_some_iff.mp cc).1
        omega
      refine ⟨_, rfl, _, rfl, _, _, rfl, rfl, _, rfl, _, _, rfl, rfl, z, j + 1, room, ?_, hz, by omega, by omega, ?_⟩
      · have e : (((room + 1 : Nat) : Int)) - 1 = (room : Int) := by omega
        show [V.str z, V.int ((j : Int) + 1), V.int (((room + 1 : Nat) : Int) - 1)] = _
        rw [e]
        rfl
      cases et : treeAt z room (j + 1) with
      | none =>
        rw [et] at ep
        have e : choiceAt (treeAt z room) z.cps.toList i = none := by
          unfold choiceAt
          rw [e0, ep]
          rfl
        intro H2 g2
        exact ⟨_, rfl, rfl, _, rfl, iteT (non e H2 (s1.trans g2))⟩
      | some te =>
        obtain ⟨t, e⟩ := te
        rw [et] at ep
        intro H2 p v g2 np hp ht
        refine ⟨_, rfl, rfl, _, rfl, ?_⟩
        rw [isNon_dec rfl]
        refine iteF ?_
        refine ⟨_, rfl, p, _, rfl, SqT.of hp, rfl, _, _, rfl, _, _, rfl, rfl, ?_⟩
        refine ⟨_, rfl, .inl ⟨rfl, _, SqL.of (g2 _ _ l1)⟩, _, rfl, l, vs, v, rfl, rfl, g2 _ _ l1, ?_, ?_⟩
        · have := tr.1
          exact small1000 (by omega)
        have lp : ∀ {b o}, H b = some o → b ≠ l := fun {b o} h => ne_of_none h hl
        refine ⟨e, done ++ [t], vs ++ [v], _, _, _, rfl, fun b o h => ?_, upd_same, ?_, by simp [hk], ?_⟩
        · rw [upd_ne (lp h)]
          exact g2 _ _ (s1 _ _ h)
        · have h2 := (tr.same g2).snoc ht
          refine ⟨h2.1, fun i' v' t' a b => ?_⟩
          have h3 := h2.2 i' v' t' a b
          exact trAt_upd h3 (g2 _ _ l1)
        · rw [ep]
          show Option.map (fun x => (done ++ x.fst, x.snd)) (match partsAt (treeAt z room) z.cps.toList ([40, 61, 63, 58].drop (k + 1)) e with | none => none | some (ts, e') => some (t :: ts, e')) = _
          cases partsAt (treeAt z room) z.cps.toList ([40, 61, 63, 58].drop (k + 1)) e with
          | none => rfl
          | some x => simp
    · have cc : ¬ z.cps.toList[j]? = some c := fun e => cc (decide_eq_true e)
      rw [if_neg cc] at ep
      have e : choiceAt (treeAt z room) z.cps.toList i = none := by
        unfold choiceAt
        rw [e0, ep]
        rfl
      refine ⟨_, rfl, rfl, _, rfl, iteT (non e H1 s1)⟩
  · rintro σ' H1 ⟨j, done, vs, s4, s5, s6, rfl, s1, l1, tr, hk, ep⟩
    have h4 : done.length = 4 := by
      rw [hk, sign_codes]
      rfl
    have ed : [40, 61, 63, 58].drop ("(=?:" : Str).cps.toList.length = ([] : List Nat) := by
      rw [sign_codes]
      rfl
    rw [ed] at ep
    have e0 : partsAt (treeAt z room) z.cps.toList [] j = some ([], j) := rfl
    rw [e0] at ep
    simp only [Option.map_some, List.append_nil] at ep
    match done, h4 with
    | [a, b, c, d], _ =>
      obtain ⟨u, v, y, x, rfl, ta, tb, tc, td⟩ := tr.four
      unfold choiceAt at q
      rw [ep] at q
      simp only at q
      refine ⟨_, rfl, _, rfl, _, rfl, _, rfl, _, _, rfl, rfl, _, rfl, z, rfl, big, rfl, _, rfl, ?_⟩
      rw [cut1_dec (d := 41) (by decide +kernel)]
      by_cases hc : z.cps.toList[j]? = some 41
      · rw [if_pos hc] at q
        refine iteNS hc ?_
        refine ⟨_, rfl, l, _, rfl, .inl ⟨SqL.of l1, fun p hp => ?_⟩⟩
        refine ⟨_, rfl, _, _, rfl, rfl, by show 2 ≤ sizeLine; decide, fun p2 hp2 => ?_⟩
        have g1 : Same H1 (upd H1 p (.tup [u, v, y, x])) := same_upd hp _
        have g2 : Same H1 (upd (upd H1 p (.tup [u, v, y, x])) p2 (.tup [.ref p, .int ((j : Int) + 1)])) := g1.trans (same_upd hp2 _)
        have n1 : p ≠ p2 := ne_of_none upd_same hp2
        refine q _ p2 (.ref p) (s1.trans g2) (s1.free (g1.free hp2)) upd_same (.ch (by rw [upd_ne n1, upd_same]) (ta.same g2) (tb.same g2) (tc.same g2) (td.same g2))
      · rw [if_neg hc] at q
        rw [decide_eq_false hc]
        refine iteT ?_
        exact q H1 s1
end
end TS
namespace TS
open PySem L2
abbrev sTreeOf : Stmt := top 38
abbrev sNeed : Stmt := top 39
abbrev sTInit : Stmt := (inClass (top 45) 0)
section
variable {P : Program} {w : World} {K : PySem.W.Frag} {mg : Str → Option Value} {base : Heap}
/-- the reader's two defs, together -/
structure RdF (K : PySem.W.Frag) (mg : Str → Option Value) (fw fc ft : Addr) (fdw fdc fdt : FuncData) : Prop where
  FW : Fun K "_word_end" "_word_end" sWord fw fdw
  bw : Binds K fdw ["text", "at"] []
  mw : mg "_word_end" = some (.ref fw)
  FC : Fun K "_choice_at" "_choice_at" sChoice fc fdc
  bc : Binds K fdc ["text", "at", "room"] []
  mc : mg "_choice_at" = some (.ref fc)
  FT : Fun K "_tree_at" "_tree_at" sTree ft fdt
  bt : Binds K fdt ["text", "at", "room"] []
  mt : mg "_tree_at" = some (.ref ft)
theorem rd_tree {fw fc ft : Addr} {fdw fdc fdt : FuncData} (R : RdF K mg fw fc ft fdw fdc fdt) (T : BltT mg) (M : CstT mg) :
    ∀ r, FnOk P w K mg base CX0 (2 * r + 2) ft fdt ["text", "at", "room"] (spTree r) ∧ FnOk P w K mg base CX0 (2 * r + 1) fc fdc ["text", "at", "room"] (spChoice r)
  | 0 => ⟨ok_tree (n := 0) (r := 0) R.FT T M R.FW R.bw R.mw R.FC R.bc R.mc none_choice, none_choice⟩
  | r + 1 => by
    have h := rd_tree R T M r
    have g : FnOk P w K mg base CX0 (2 * (r + 1) + 1) fc fdc ["text", "at", "room"] (spChoice (r + 1)) := ok_choice (n := 2 * r + 2) R.FC T M R.FT R.bt R.mt h.1
    exact ⟨ok_tree (n := 2 * (r + 1)) R.FT T M R.FW R.bw R.mw R.FC R.bc R.mc g, g⟩
/-! _tree_of_text -/
def TxtRes (H : Hp) (o : Option Tr) (Q : VK) : Prop := match o with
  | none => ∀ H', Same H H' → Q .non H'
  | some t => ∀ (H' : Hp) (v : V), Same H H' → TrAt H' v t → Q v H'
def spTreeText : Sp := fun vs H Q _ => ∃ z : Str, vs = [.str z] ∧ z.length ≤ 100000 ∧ TxtRes H (treeOf z) Q
theorem scTreeText : FnScope ["text", "found", "tree", "end"] ["text"] (defScope sTreeText) := ⟨rfl, rfl, rfl, by decide +kernel, rfl, by decide +kernel, by decide +kernel⟩
theorem ok_treeText {f fw fc ft : Addr} {fd fdw fdc fdt : FuncData} (F : Fun K "_tree_of_text" "_tree_of_text" sTreeText f fd) (R : RdF K mg fw fc ft fdw fdc fdt) (T : BltT mg) (M : CstT mg) :
    FnOk P w K mg base CX0 9 f fd ["text"] spTreeText := by
  refine F.ok scTreeText (fun vs H Q E h => ?_) (fun cdv A outer s H vs Q E hr h => ?_)
  · obtain ⟨z, rfl, _⟩ := h
    rfl
  obtain ⟨z, rfl, hz, q⟩ := h
  obtain ⟨td, md⟩ := M.deep
  have GT : FnOk P w K mg base CX0 8 ft fdt ["text", "at", "room"] (spTree 3) := (rd_tree R T M 3).1
  refine ⟨_, pss_cons (ps_set (i := 1) scTreeText.nd rfl (.inl rfl) (pe_call GT hr rfl R.mt R.FT.kp R.bt .nil pass0 (pa_cons (pv 0) (pa_cons pe_int (pa_cons (pe_glob rfl md (show RelV (.int 3) (.int 3 td) from ⟨_, rfl⟩)) pa_nil)))))
    (pss_cons (ps_if (pt_cmpR op_isN (pv 1) pe_non (nomark _)) (pss_one (ps_ret pe_non)) pss_nil)
    (pss_cons (ps_asg (pv 1) (pg_tup (by rfl) (pgs_cons (pg_name (i := 2) scTreeText.nd rfl (.inl rfl)) (pgs_cons (pg_name (i := 3) scTreeText.nd rfl (.inl rfl)) pgs_nil))))
    (pss_one (ps_ret (pe_ifExp (pt_cmpR op_eq (pv 3) (pe_callB call_len_str (by rfl) T.len PySem.boot_len (pa_cons (pv 0) pa_nil)) (nomark _)) (pv 2) pe_non))))), ?_⟩
  have big : z.length ≤ sizeLine := Nat.le_trans hz (by decide)
  refine ⟨_, rfl, z, 0, 3, rfl, hz, by decide, Nat.le_refl _, ?_⟩
  unfold treeOf at q
  cases et : treeAt z 3 0 with
  | none =>
    rw [et] at q
    intro H1 g1
    exact ⟨_, rfl, rfl, _, rfl, iteT (q H1 g1)⟩
  | some te =>
    obtain ⟨t, e⟩ := te
    rw [et] at q
    simp only at q
    intro H1 p v g1 np hp ht
    refine ⟨_, rfl, rfl, _, rfl, ?_⟩
    rw [isNon_dec rfl]
    refine iteF ?_
    refine ⟨_, rfl, p, _, rfl, SqT.of hp, rfl, _, _, rfl, _, _, rfl, rfl, ?_⟩
    refine ⟨_, rfl, _, rfl, z, rfl, big, rfl, _, rfl, ?_⟩
    by_cases c : e = z.length
    · rw [if_pos c] at q
      subst c
      rw [decide_eq_true rfl]
      exact iteT ⟨_, rfl, q H1 v g1 ht⟩
    · rw [if_neg c] at q
      rw [decide_eq_false (by intro h; injection h with h; exact c (by omega))]
      exact iteF (q H1 g1)
/-! _tree_of, _needed_tree -/
/-- what the walk asks of the class Term as the top has made it -/
structure TermK (K : PySem.W.Frag) (mg : Str → Option Value) (C : Addr) : Prop where
  cl : Cls K C
  mgC : mg "Term" = some (.ref C)
  n1 : NoAttr K C "_tree"
  n2 : NoAttr K C "_text"
  n3 : NoAttr K C "_depth"
  n4 : NoAttr K C "_kind"
  n5 : NoAttr K C "_leaves"
  n6 : NoAttr K C "_variables"
  n7 : NoAttr K C "_constants"
  ha : PySem.W.findIn K (.ref C) "__class__" = some (some (.builtin "object.__class__"))
  hn : PySem.W.specialIn K (.builtin "object.__class__") "__get__" = some (some (.builtin "getset_descriptor.__get__"))
  htk : PySem.W.takesIn K (.builtin "object.__class__") = some true
  hm : PySem.W.mroIn K C (.type "object") = some true
  kC : PySem.W.kitOne K (.ref C) (.ref C) = some true
  kStr : PySem.W.kitOne K (.type "str") (.ref C) = some false
  kInt : PySem.W.kitOne K (.type "int") (.ref C) = some false
  kTup : PySem.W.kitOne K (.type "tuple") (.ref C) = some false
  kCS : PySem.W.kitOne K (.ref C) (.type "str") = some false
theorem TermK.ty {C a dx : Addr} {H : Hp} {fs : List (Str × V)} (T : TermK K mg C) (h : H a = some (.ins C dx fs)) : TyX K H (.ref a) (.ref C) := .base (.ins h T.cl T.ha T.hn T.htk T.hm)
theorem scTreeOf : FnScope ["value"] ["value"] (defScope sTreeOf) := ⟨rfl, rfl, rfl, by decide +kernel, rfl, by decide +kernel, by decide +kernel⟩
/-- what is no Term and no text -/
def spTreeOf (K : PySem.W.Frag) (C : Addr) : Sp := fun vs H Q _ => ∃ x : V, vs = [x] ∧
  ((∃ z : Str, x = .str z ∧ z.length ≤ 100000 ∧ TxtRes H (treeOf z) Q) ∨ (∃ a t, x = .ref a ∧ TermAt C H a t ∧ ∀ v, TrAt H v t → Q v H) ∨
   (∃ (tx : Value) (i b : Bool), TyX K H x tx ∧ PySem.W.kitOne K tx (.ref C) = some false ∧ PySem.W.kitOne K tx (.type "str") = some false ∧ PySem.W.kitOne K tx (.type "int") = some i ∧ PySem.W.kitOne K tx (.type "bool") = some b ∧
      (((i && !b) = true ∧ ∃ n : Int, x = .int n ∧ if 0 ≤ n ∧ n ≤ 9 then Q (.int n) H else Q .non H) ∨ ((i && !b) = false ∧ Q .non H))))
theorem ok_treeOf {C f fx fn : Addr} {fd fdx fdn : FuncData} (F : Fun K "_tree_of" "_tree_of" sTreeOf f fd) (T : BltT mg) (TK : TermK K mg C) (mm : ∃ t, mg "MOST_CONSTANT" = some (.int 9 t))
    (FX : Fun K "_tree_of_text" "_tree_of_text" sTreeText fx fdx) (bx : Binds K fdx ["text"] []) (mx : mg "_tree_of_text" = some (.ref fx)) (GX : FnOk P w K mg base CX0 9 fx fdx ["text"] spTreeText)
    (FN : Fun K "is_number" "is_number" sIsNum fn fdn) (bn : Binds K fdn ["value"] []) (mn : mg "is_number" = some (.ref fn)) : FnOk P w K mg base CX0 10 f fd ["value"] (spTreeOf K C) := by
  refine F.ok scTreeOf (fun vs H Q E h => ?_) (fun cdv A outer s H vs Q E hr h => ?_)
  · obtain ⟨x, rfl, _⟩ := h
    rfl
  obtain ⟨x, rfl, h⟩ := h
  obtain ⟨t9, m9⟩ := mm
  have GN : FnOk P w K mg base CX0 1 fn fdn ["value"] (spNum K) := ok_num FN T
  refine ⟨_, pss_cons (ps_if (pt_val (pe_callB call_isi (by rfl) T.isi bIsi (pa_cons (pv 0) (pa_cons (pe_glob rfl TK.mgC (show RelV (.ref C) (.ref C) from rfl)) pa_nil)))) (pss_one (ps_ret (pe_fld (pv 0) rfl))) pss_nil)
    (pss_cons (ps_if (pt_val (pe_callB call_isi (by rfl) T.isi bIsi (pa_cons (pv 0) (pa_cons (pe_bltn (by rfl) T.str (v := .ty "str") (by decide +kernel) rfl) pa_nil)))) (pss_one (ps_ret (pe_call GX hr rfl mx FX.kp bx .nil pass0 (pa_cons (pv 0) pa_nil)))) pss_nil)
    (pss_one (ps_ret (pe_ifExp (PW.pt (pw_and (pt_val (pe_call GN (hr.mono (by decide)) rfl mn FN.kp bn .nil pass0 (pa_cons (pv 0) pa_nil))) (pw_and1 (pt_chain op_le op_le pe_int (pv 0) (pe_glob rfl m9 (show RelV (.int 9) (.int 9 t9) from ⟨_, rfl⟩)))))) (pv 0) pe_non)))), ?_⟩
  rcases h with ⟨z, rfl, hz, q⟩ | ⟨a, t, rfl, ht, q⟩ | ⟨tx, i, b, ty, k1, k2, k3, k4, q⟩
  · refine ⟨_, rfl, _, _, _, _, _, rfl, .own C, .base (.str z), TK.kStr, _, rfl, iteF ?_⟩
    refine ⟨_, rfl, _, _, _, _, _, rfl, .ty "str", .base (.str z), kit_ty (r := true) (by decide +kernel), _, rfl, iteT ?_⟩
    exact ⟨_, rfl, z, rfl, hz, q⟩
  · obtain ⟨_, _, dx, v, l, qq, r, ws, ns, h1, h2, _⟩ := ht
    refine ⟨_, rfl, _, _, _, _, _, rfl, .own C, TK.ty h1, TK.kC, _, rfl, iteT ?_⟩
    exact ⟨_, rfl, a, C, dx, _, _, rfl, h1, TK.cl, TK.n1, tfs_tree _ _ _ _ _ _ _, q v h2⟩
  · refine ⟨_, rfl, _, _, _, _, _, rfl, .own C, ty, k1, _, rfl, iteF ?_⟩
    refine ⟨_, rfl, _, _, _, _, _, rfl, .ty "str", ty, k2, _, rfl, iteF ?_⟩
    refine ⟨_, rfl, x, tx, i, b, rfl, ty, k3, k4, _, rfl, ?_⟩
    rcases q with ⟨e, n, rfl, q⟩ | ⟨e, q⟩
    · rw [e]
      refine iteT ⟨_, rfl, _, _, rfl, rfl, _, rfl, ?_⟩
      by_cases c0 : 0 ≤ n
      · rw [decide_eq_true c0]
        refine iteT ⟨_, _, rfl, rfl, _, rfl, ?_⟩
        by_cases c9 : n ≤ 9
        · rw [if_pos ⟨c0, c9⟩] at q
          rw [decide_eq_true c9]
          exact iteT ⟨_, rfl, q⟩
        · rw [if_neg (fun h => c9 h.2)] at q
          rw [decide_eq_false c9]
          exact iteF q
      · rw [if_neg (fun h => c0 h.1)] at q
        rw [decide_eq_false c0]
        exact iteF ⟨_, rfl, iteF q⟩
    · rw [e]
      exact iteF (iteF q)
theorem scNeed : FnScope ["value", "tree"] ["value"] (defScope sNeed) := ⟨rfl, rfl, rfl, by decide +kernel, rfl, by decide +kernel, by decide +kernel⟩
/-- what makes the term t: its text, its number, or a Term -/
def Makes (C : Addr) (H : Hp) (x : V) (t : Tr) : Prop := x = .str t.text ∨ (∃ n, t = .num n ∧ x = .int n) ∨ ∃ a, x = .ref a ∧ TermAt C H a t
def spNeed (C : Addr) : Sp := fun vs H Q _ => ∃ (x : V) (t : Tr), vs = [x] ∧ Makes C H x t ∧ t.fine ∧ t.deep ≤ 3 ∧ ∀ (H' : Hp) (v : V), Same H H' → TrAt H' v t → Q v H'
theorem ref_ne {v : V} {H : Hp} {t : Tr} (h : TrAt H v t) : decide (v = V.non) = false := decide_eq_false (fun e => by subst e; cases h)
theorem ok_need {C f fx : Addr} {fd fdx : FuncData} (F : Fun K "_needed_tree" "_needed_tree" sNeed f fd) (T : BltT mg) (TK : TermK K mg C)
    (FX : Fun K "_tree_of" "_tree_of" sTreeOf fx fdx) (bx : Binds K fdx ["value"] []) (mx : mg "_tree_of" = some (.ref fx)) (GX : FnOk P w K mg base CX0 10 fx fdx ["value"] (spTreeOf K C)) : FnOk P w K mg base CX0 11 f fd ["value"] (spNeed C) := by
  refine F.ok scNeed (fun vs H Q E h => ?_) (fun cdv A outer s H vs Q E hr h => ?_)
  · obtain ⟨x, t, rfl, _⟩ := h
    rfl
  obtain ⟨x, t, rfl, hm, hf, hd, q⟩ := h
  refine ⟨_, pss_cons (ps_set (i := 1) scNeed.nd rfl (.inl rfl) (pe_call GX hr rfl mx FX.kp bx .nil pass0 (pa_cons (pv 0) pa_nil)))
    (pss_cons (ps_if (pt_cmpR op_isN (pv 1) pe_non (nomark _)) (pss_one ps_never) pss_nil)
    (pss_one (ps_ret (pv 1)))), ?_⟩
  have fin : ∀ (H' : Hp) (v : V), Same H H' → TrAt H' v t → (∃ v_1, some (some v) = some (some v_1) ∧ True) ∧ decide (v = V.non) = false := fun H' v s h => ⟨⟨v, rfl, True.intro⟩, ref_ne h⟩
  refine ⟨_, rfl, x, rfl, ?_⟩
  rcases hm with rfl | ⟨n, rfl, rfl⟩ | ⟨a, rfl, ha⟩
  · refine .inl ⟨t.text, rfl, Nat.le_trans (text315 hf hd) (by decide), ?_⟩
    rw [treeOf_text hf hd]
    intro H' v s h
    refine ⟨_, rfl, rfl, _, rfl, ?_⟩
    rw [ref_ne h]
    exact iteF ⟨_, rfl, q H' v s h⟩
  · refine .inr (.inr ⟨_, true, false, .base (.int n), TK.kInt, kit_ty (by decide +kernel), kit_ty (by decide +kernel), kit_ty (by decide +kernel), .inl ⟨rfl, n, rfl, ?_⟩⟩)
    rw [if_pos ⟨hf.1, hf.2⟩]
    exact ⟨_, rfl, rfl, _, rfl, iteF ⟨_, rfl, q H _ (Same.refl H) (.num n)⟩⟩
  · refine .inr (.inl ⟨a, t, rfl, ha, fun v h => ?_⟩)
    refine ⟨_, rfl, rfl, _, rfl, ?_⟩
    rw [ref_ne h]
    exact iteF ⟨_, rfl, q H v (Same.refl H) h⟩
end
end TS
namespace TS
open PySem L2
section
variable {P : Program} {w : World} {K : PySem.W.Frag} {mg : Str → Option Value} {base : Heap}
/-- a def stands under its name and keeps its promise -/
def Has (P : Program) (w : World) (K : PySem.W.Frag) (mg : Str → Option Value) (base : Heap) (name : Str) (k : Nat) (ps : List Str) (sp : Sp) : Prop :=
  ∃ (f : Addr) (fd : FuncData), mg name = some (.ref f) ∧ PySem.W.keepIn K (.ref f) = true ∧ Binds K fd ps [] ∧ FnOk P w K mg base CX0 k f fd ps sp
theorem Has.mk {name : Str} {st : Stmt} {f : Addr} {fd : FuncData} {k : Nat} {ps : List Str} {sp : Sp} (F : Fun K name name st f fd) (m : mg name = some (.ref f)) (b : Binds K fd ps []) (G : FnOk P w K mg base CX0 k f fd ps sp) : Has P w K mg base name k ps sp := ⟨f, fd, m, F.kp, b, G⟩
/-- a method of the class at C -/
def HasM (P : Program) (w : World) (K : PySem.W.Frag) (mg : Str → Option Value) (base : Heap) (C : Addr) (m : Str) (k : Nat) (ps : List Str) (sp : Sp) : Prop :=
  ∃ (f : Addr) (fd : FuncData), Meth K C m f ∧ Binds K fd ps [] ∧ FnOk P w K mg base CX0 k f fd ps sp
/-- [x for x in list if test], where the test changes nothing -/
theorem lc_filtL {p D : Addr} {xs : List V} (f : V → Bool) {k : Nat} {tt : TT} {σ : St} {H : Hp} {Qd : Hp → Prop} (hp : H p = some (.lst xs)) (h6 : xs.length ≤ 1000) (hD : H D = none)
    (hw : ∀ v, wipe ((wipe σ [k]).set k v) [k] = wipe σ [k]) (hat : ∀ v, ((wipe σ [k]).set k (some v))[k]? = some (some v))
    (ht : ∀ (i : Nat) (x : V) (H1 : Hp) (R : Bool → Hp → Prop), xs[i]? = some x → Same H H1 → R (f x) H1 → tt ((wipe σ [k]).set k (some x)) H1 R)
    (hd : ∀ H1, Same H H1 → H1 D = some (.lst (xs.filter f)) → Qd H1) :
    ∃ W : Nat → Nat → Hp → Prop, (∃ m, W 0 m (upd H D (.lst []))) ∧ ∀ i m H, W i m H →
      ((Itl K p).stop i H ∧ Qd H) ∨ ((Itl K p).go i H ∧ ∃ Nx : Hp → Prop, (∀ H', Nx H' → ∃ m', m' < m ∧ W (i + 1) m' H') ∧ ∀ x H', (Itl K p).yld i H x H' → gName k x (wipe σ [k]) H' fun σ2 H2 => wipe σ2 [k] = wipe σ [k] ∧ tt σ2 H2 fun b H3 =>
        if b = true then tVar k σ2 H3 fun y H4 => ∃ acc, H4 D = some (.lst acc) ∧ acc.length < sizeLine ∧ Nx (upd H4 D (.lst (acc ++ [y]))) else Nx H3) := by
  have hpD : p ≠ D := ne_of_none hp hD
  refine lc_list (K := K) (a := p) (xs := xs) (fun i H1 => Same H H1 ∧ H1 D = some (.lst ((xs.take i).filter f))) ⟨same_upd hD _, upd_same⟩ (fun i H1 _ z => SqL.of (z.1 _ _ hp)) (fun i x H1 hx z => ?_) (fun H1 z => ?_)
  · obtain ⟨s1, d1⟩ := z
    have hi : i < xs.length := (List.getElem?_eq_some_iff.mp hx).1
    have tk : xs.take (i + 1) = xs.take i ++ [x] := by
      rw [List.take_succ, hx]
      rfl
    refine ⟨hw _, ht i x H1 _ hx s1 ?_⟩
    cases e : f x with
    | true =>
      refine iteT ⟨x, hat x, _, d1, ?_, fun b o q => ?_, ?_⟩
      · have h1 : ((xs.take i).filter f).length ≤ (xs.take i).length := List.length_filter_le _ _
        rw [List.length_take] at h1
        exact small1000 (by omega)
      · rw [upd_ne (ne_of_none q hD)]
        exact s1 _ _ q
      · rw [upd_same, tk, List.filter_append]
        simp [e]
    | false =>
      refine iteF ⟨s1, ?_⟩
      rw [tk, List.filter_append]
      simp [e, d1]
  · obtain ⟨s1, d1⟩ := z
    rw [List.take_length] at d1
    exact hd H1 s1 d1
theorem once_le {κ : Type} [DecidableEq κ] (l : List κ) : (once l).length ≤ l.length := once_len l
theorem filt_words (t : Tr) : t.words.length ≤ t.leaves.length := by
  have h := congrArg List.length (leaves_words t)
  rw [List.length_map] at h
  rw [← h]
  exact List.length_filter_le _ _
theorem filt_nums (t : Tr) : t.nums.length ≤ t.leaves.length := by
  have h := congrArg List.length (leaves_nums t)
  rw [List.length_map] at h
  rw [← h]
  exact List.length_filter_le _ _
/-! Term.__init__ -/
abbrev nmTInit : List Str := ["self", "value", "tree", "leaf"]
theorem scTInit : FnScope nmTInit ["self", "value"] (defScope sTInit) := ⟨rfl, rfl, rfl, by decide +kernel, rfl, by decide +kernel, by decide +kernel⟩
def spTInit (C : Addr) : Sp := fun vs H Q _ => ∃ (p dx : Addr) (x : V) (t : Tr), vs = [.ref p, x] ∧ H p = some (.ins C dx []) ∧ Makes C H x t ∧ t.fine ∧ t.deep ≤ 3 ∧ ∀ H', SameX p H H' → (∀ Ds, Lists Ds H → ∀ G, SameOff Ds H' G → TermAt C G p t) → Q .non H'
theorem sx_upd {p : Addr} {H H1 : Hp} {o : HO} (s : SameX p H H1) : SameX p H (upd H1 p o) := fun b u h n => by
  rw [upd_ne n]
  exact s b u h n
theorem sx_self {p : Addr} {H : Hp} {o : HO} : SameX p H (upd H p o) := sx_upd (SameX.refl p H)
theorem ins_tup {H : Hp} {p C dx : Addr} {fs : List (Str × V)} (h : H p = some (.ins C dx fs)) : ∀ xs, H p ≠ some (.tup xs) := fun xs e => by
  rw [h] at e
  cases e
theorem few {f : Str} {v : V} {fs : List (Str × V)} {n : Nat} (h : fs.length ≤ n) : (putF f v fs).length ≤ n + 1 := Nat.le_trans (length_putF f v fs) (Nat.succ_le_succ h)
theorem nxt {H A H2 : Hp} {p C dx : Addr} {z : List (Str × V)} {v : V} {t : Tr} (z' : List (Str × V)) (x1 : SameX p H A) (t2 : TrAt A v t) (p2 : A p = some (.ins C dx z)) (g : Same A H2) :
    SameX p H (upd H2 p (.ins C dx z')) ∧ TrAt (upd H2 p (.ins C dx z')) v t ∧ (upd H2 p (.ins C dx z')) p = some (.ins C dx z') :=
  ⟨sx_upd (x1.trans (Same.x g)), (t2.same g).sameX sx_self (ins_tup (g _ _ p2)), upd_same⟩
theorem lst_upd {H : Hp} {l p : Addr} {o u : HO} (h : H l = some o) (n : l ≠ p) : upd H p u l = some o := by
  rw [upd_ne n]
  exact h
theorem isS_kit {H : Hp} {t : Tr} {v : V} (h : v ∈ t.leaves) : ∃ u, TyX K H v u ∧ PySem.W.kitOne K u (.type "str") = some (isS v) := by
  rcases leaves_kind t v h with ⟨x, rfl⟩ | ⟨n, rfl⟩
  · exact ⟨_, .base (.str x), kit_ty (r := true) (by decide +kernel)⟩
  · exact ⟨_, .base (.int n), kit_ty (r := false) (by decide +kernel)⟩
theorem ok_tinit {C f : Addr} {fd : FuncData} (F : Fun K "__init__" "Term.__init__" sTInit f fd) (T : BltT mg) (TK : TermK K mg C)
    (D1 : Has P w K mg base "_needed_tree" 11 ["value"] (spNeed C)) (D2 : Has P w K mg base "_text_of" 3 ["tree"] (spText 3)) (D3 : Has P w K mg base "_depth_of" 3 ["tree"] (spDepth 3)) (D4 : Has P w K mg base "_kind_of" 1 ["tree"] spKind)
    (D5 : Has P w K mg base "_leaves_of" 3 ["tree"] (spLeaves 3)) (D6 : Has P w K mg base "ascending" 1 ["values"] spAsc) : FnOk P w K mg base CX0 12 f fd ["self", "value"] (spTInit C) := by
  obtain ⟨f1, fd1, m1, k1, b1, G1⟩ := D1
  obtain ⟨f2, fd2, m2, k2, b2, G2⟩ := D2
  obtain ⟨f3, fd3, m3, k3, b3, G3⟩ := D3
  obtain ⟨f4, fd4, m4, k4, b4, G4⟩ := D4
  obtain ⟨f5, fd5, m5, k5, b5, G5⟩ := D5
  obtain ⟨f6, fd6, m6, k6, b6, G6⟩ := D6
  refine F.ok scTInit (fun vs H Q E h => ?_) (fun cdv A outer s H vs Q E hr h => ?_)
  · obtain ⟨p, dx, x, t, rfl, _⟩ := h
    rfl
  obtain ⟨p, dx, x, t, rfl, hp, hm, hf, hd, q⟩ := h
  have r3 : Room 3 _ := hr.mono (by decide)
  have r1 : Room 1 _ := hr.mono (by decide)
  refine ⟨_, pss_cons (ps_set (i := 2) scTInit.nd rfl (.inl rfl) (pe_call G1 hr rfl m1 k1 b1 .nil pass0 (pa_cons (pv 1) pa_nil)))
    (pss_cons (ps_fld (pv 0) (pv 2) rfl)
    (pss_cons (ps_fld (pv 0) (pe_call G2 r3 rfl m2 k2 b2 .nil pass0 (pa_cons (pv 2) pa_nil)) rfl)
    (pss_cons (ps_fld (pv 0) (pe_call G3 r3 rfl m3 k3 b3 .nil pass0 (pa_cons (pv 2) pa_nil)) rfl)
    (pss_cons (ps_fld (pv 0) (pe_call G4 r1 rfl m4 k4 b4 .nil pass0 (pa_cons (pv 2) pa_nil)) rfl)
    (pss_cons (ps_fld (pv 0) (pe_call G5 r3 rfl m5 k5 b5 .nil pass0 (pa_cons (pv 2) pa_nil)) rfl)
    (pss_cons (ps_fld (pv 0) (pe_call G6 r1 rfl m6 k6 b6 .nil pass0 (pa_cons
      (pe_lc (own := [("leaf", 3)]) (g := gName 3) (tt := tTest (tCB (rIsi K) (tCons (tVar 3) (tCons (tC (.ty "str")) tNil)))) (by rfl) scTInit.nd (pi_list (pe_fld (pv 0) rfl)) (blkOk_by (own := [("leaf", 3)]) (N := nmTInit) (sc := defScope sTInit) (by decide +kernel)) (fun _ _ _ _ _ => pg_name (i := 3) scTInit.nd rfl (Or.inl rfl))
        (fun _ _ _ _ _ => pts_one (pt_val (pe_callB call_isi (by rfl) T.isi bIsi (pa_cons (pv 3) (pa_cons (pe_bltn (by rfl) T.str (v := .ty "str") (by decide +kernel) rfl) pa_nil))))) (fun _ _ _ _ _ => pv 3)) pa_nil)) rfl)
    (pss_one (ps_fld (pv 0) (pe_call G6 r1 rfl m6 k6 b6 .nil pass0 (pa_cons
      (pe_lc (own := [("leaf", 3)]) (g := gName 3) (tt := tNot (tTest (tCB (rIsi K) (tCons (tVar 3) (tCons (tC (.ty "str")) tNil))))) (by rfl) scTInit.nd (pi_list (pe_fld (pv 0) rfl)) (blkOk_by (own := [("leaf", 3)]) (N := nmTInit) (sc := defScope sTInit) (by decide +kernel)) (fun _ _ _ _ _ => pg_name (i := 3) scTInit.nd rfl (Or.inl rfl))
        (fun _ _ _ _ _ => pts_one (pt_not (pt_val (pe_callB call_isi (by rfl) T.isi bIsi (pa_cons (pv 3) (pa_cons (pe_bltn (by rfl) T.str (v := .ty "str") (by decide +kernel) rfl) pa_nil)))))) (fun _ _ _ _ _ => pv 3)) pa_nil)) rfl)))))))), ?_⟩
  have l16 := leaves16 hd
  have lw := filt_words t
  have ln := filt_nums t
  have t315 := text315 hf hd
  refine ⟨_, rfl, x, t, rfl, hm, hf, hd, fun H1 v s1 t1 => ?_⟩
  have p1 := s1 _ _ hp
  -- self._tree
  refine ⟨_, rfl, _, rfl, p, C, dx, [], rfl, p1, TK.cl, TK.n1, (by show 0 < 1000; decide), ?_⟩
  generalize ez1 : putF "_tree" v [] = z1
  obtain ⟨x1, t2, p2⟩ := nxt z1 (SameX.refl p H |>.trans (Same.x s1)) t1 p1 (Same.refl H1)
  have c1 : z1.length ≤ 1 := by
    rw [← ez1]
    exact few (Nat.le_refl 0)
  generalize upd H1 p (.ins C dx z1) = A1 at x1 t2 p2
  -- self._text
  refine ⟨_, rfl, v, t, rfl, t2, hf.small, hd, by omega, fun H2 g2 => ?_⟩
  refine ⟨_, rfl, p, C, dx, z1, rfl, g2 _ _ p2, TK.cl, TK.n2, by omega, ?_⟩
  generalize ez2 : putF "_text" (.str t.text) z1 = z2
  obtain ⟨x2, t3, p3⟩ := nxt z2 x1 t2 p2 g2
  have c2 : z2.length ≤ 2 := by
    rw [← ez2]
    exact few c1
  generalize upd H2 p (.ins C dx z2) = A2 at x2 t3 p3
  -- self._depth
  refine ⟨_, rfl, v, t, rfl, t3, hd, fun H3 g3 => ?_⟩
  refine ⟨_, rfl, p, C, dx, z2, rfl, g3 _ _ p3, TK.cl, TK.n3, by omega, ?_⟩
  generalize ez3 : putF "_depth" (.int t.deep) z2 = z3
  obtain ⟨x3, t4, p4⟩ := nxt z3 x2 t3 p3 g3
  have c3 : z3.length ≤ 3 := by
    rw [← ez3]
    exact few c2
  generalize upd H3 p (.ins C dx z3) = A3 at x3 t4 p4
  -- self._kind
  refine ⟨_, rfl, v, t, rfl, t4, ?_⟩
  refine ⟨_, rfl, p, C, dx, z3, rfl, p4, TK.cl, TK.n4, by omega, ?_⟩
  generalize ez4 : putF "_kind" (.str t.kind) z3 = z4
  obtain ⟨x4, t5, p5⟩ := nxt z4 x3 t4 p4 (Same.refl A3)
  have c4 : z4.length ≤ 4 := by
    rw [← ez4]
    exact few c3
  generalize upd A3 p (.ins C dx z4) = A4 at x4 t5 p5
  -- self._leaves
  refine ⟨_, rfl, v, t, rfl, t5, hd, by omega, fun l H5 g5 nl hl => ?_⟩
  have lp : l ≠ p := (ne_of_none p5 nl).symm
  refine ⟨_, rfl, p, C, dx, z4, rfl, g5 _ _ p5, TK.cl, TK.n5, by omega, ?_⟩
  generalize ez5 : putF "_leaves" (.ref l) z4 = z5
  obtain ⟨x5, t6, p6⟩ := nxt z5 x4 t5 p5 g5
  have l6 := lst_upd (u := .ins C dx z5) hl lp
  have c5 : z5.length ≤ 5 := by
    rw [← ez5]
    exact few c4
  have k5 : z5.lookup ("_leaves" : Str) = some (.ref l) := by
    rw [← ez5, lookup_putF, if_pos rfl]
  generalize upd H5 p (.ins C dx z5) = A5 at x5 t6 p6 l6
  -- self._variables
  refine ⟨_, rfl, p, C, dx, _, _, rfl, p6, TK.cl, TK.n5, k5, l, rfl, ⟨_, SqL.of l6⟩, fun D hD => lc_filtL isS l6 (by omega) hD (fun _ => rfl) (fun _ => rfl) (fun i y H1 R hy sy r => ?_) (fun H6 g6 d6 => ?_)⟩
  · obtain ⟨u, ty, ky⟩ := isS_kit (K := K) (H := H1) (List.mem_of_getElem? hy)
    exact ⟨_, rfl, _, _, _, _, _, rfl, .ty "str", ty, ky, _, rfl, r⟩
  rw [leaves_words] at d6
  refine ⟨D, _, rfl, d6, by rw [List.length_map]; omega, .inl ⟨t.words, rfl, fun qv H7 ws g7 nq pw sw hq => ?_⟩⟩
  have g67 := g6.trans g7
  have qp : qv ≠ p := (ne_of_none (g6 _ _ p6) nq).symm
  refine ⟨_, rfl, p, C, dx, z5, rfl, g67 _ _ p6, TK.cl, TK.n6, by omega, ?_⟩
  generalize ez6 : putF "_variables" (.ref qv) z5 = z6
  obtain ⟨x6, t7, p7⟩ := nxt z6 x5 t6 p6 g67
  have l7 := lst_upd (u := .ins C dx z6) (g67 _ _ l6) lp
  have q7 := lst_upd (u := .ins C dx z6) hq qp
  have c6 : z6.length ≤ 6 := by
    rw [← ez6]
    exact few c5
  have k6 : z6.lookup ("_leaves" : Str) = some (.ref l) := by
    rw [← ez6, lookup_putF, if_neg (by decide +kernel)]
    exact k5
  generalize upd H7 p (.ins C dx z6) = A6 at x6 t7 p7 l7 q7
  -- self._constants
  refine ⟨_, rfl, p, C, dx, _, _, rfl, p7, TK.cl, TK.n5, k6, l, rfl, ⟨_, SqL.of l7⟩, fun D hD => lc_filtL (fun y => !isS y) l7 (by omega) hD (fun _ => rfl) (fun _ => rfl) (fun i y H1 R hy sy r => ?_) (fun H8 g8 d8 => ?_)⟩
  · obtain ⟨u, ty, ky⟩ := isS_kit (K := K) (H := H1) (List.mem_of_getElem? hy)
    exact ⟨_, rfl, _, _, _, _, _, rfl, .ty "str", ty, ky, _, rfl, r⟩
  rw [leaves_nums] at d8
  refine ⟨D, _, rfl, d8, by rw [List.length_map]; omega, .inr ⟨t.nums, rfl, fun rv H9 ns g9 nr pn sn hr9 => ?_⟩⟩
  have g89 := g8.trans g9
  have rp : rv ≠ p := (ne_of_none (g8 _ _ p7) nr).symm
  refine ⟨_, rfl, p, C, dx, z6, rfl, g89 _ _ p7, TK.cl, TK.n7, by omega, ?_⟩
  generalize ez7 : putF "_constants" (.ref rv) z6 = z7
  obtain ⟨x7, t8, p8⟩ := nxt z7 x6 t7 p7 g89
  have l8 := lst_upd (u := .ins C dx z7) (g89 _ _ l7) lp
  have q8 := lst_upd (u := .ins C dx z7) (g89 _ _ q7) qp
  have r8 := lst_upd (u := .ins C dx z7) hr9 rp
  have ez : z7 = tfs v t.text t.deep t.kind l qv rv := by
    rw [← ez7, ← ez6, ← ez5, ← ez4, ← ez3, ← ez2, ← ez1]
    rfl
  generalize upd H9 p (.ins C dx z7) = A7 at x7 t8 p8 l8 q8 r8
  rw [ez] at p8
  refine q A7 x7 fun Ds hDs G sG => ?_
  have out : ∀ {b : Addr} {o : HO}, A7 b = some o → (∀ xs, o ≠ .lst xs) → b ∉ Ds := fun {b o} hb no m => by
    obtain ⟨xs, e⟩ := hDs b m
    have nb : b ≠ p := ne_of e hp (by intro z; cases z)
    have := x7 b _ e nb
    rw [hb] at this
    exact no xs (Option.some.inj this)
  have lD : l ∉ Ds := fun m => by
    obtain ⟨xs, e⟩ := hDs l m
    have := x4 l _ e (ne_of e hp (by intro z; cases z))
    rw [nl] at this
    cases this
  have qD : qv ∉ Ds := fun m => by
    obtain ⟨xs, e⟩ := hDs qv m
    have := g6 _ _ (x5 qv _ e (ne_of e hp (by intro z; cases z)))
    rw [nq] at this
    cases this
  have rD : rv ∉ Ds := fun m => by
    obtain ⟨xs, e⟩ := hDs rv m
    have := g8 _ _ (x6 rv _ e (ne_of e hp (by intro z; cases z)))
    rw [nr] at this
    cases this
  have hDs7 : Lists Ds A7 := fun D m => by
    obtain ⟨xs, e⟩ := hDs D m
    exact ⟨xs, x7 D _ e (ne_of e hp (by intro z; cases z))⟩
  exact ⟨hf, hd, dx, v, l, qv, rv, ws, ns, sG _ _ p8 (out p8 (by intro xs z; cases z)), t8.off sG hDs7, sG _ _ l8 lD, sG _ _ q8 qD, sG _ _ r8 rD, pw, sw, pn, sn⟩
end
end TS
namespace TS
open PySem PySem.Spec PyProof.Rows PySem.W L2
/-! own __eq__, __contains__, __len__, __str__ reached by ==, !=, in, len, str -/
section
variable {prog : Program} {w : World} {A : Around} {E : Value → Shared → Prop} {s : Shared} {K : Frag} {x C f : Addr} {b tb : Value} {ox : Obj} {od : Option Obj}
/-- a rich comparison whose left side answers -/
theorem rc_one {op : CmpOp} {Q : Value → Shared → Prop} (hu : A.units < cLine) (X : K.In s.heap) (I : InstAt s.heap x ox C od) (hb : Looks (model prog w) s.heap (typeOf b) tb) (hn : notFirst K C tb = true)
    (one : wpAny (model prog w) A (tryCompare (.ref x) (cmpInfo op).2.1 b) (fun r s' => ∃ v, r = some v ∧ Q v s') E s) : wpAny (model prog w) A (richCompare op (.ref x) b) Q E s := by
  unfold richCompare
  simp only [oneThing_ref]
  refine wpAny_holding (wpAny_bind (wpAny_cRoomFor hu ?_))
  refine wpAny_bind (I.type.here (wpAny_bind (hb.here ?_)))
  split
  · rename_i q
    have e : subIn K tb (.ref C) = some false := by
      rcases Bool.or_eq_true_iff.mp hn with e | e
      · rw [beq_iff_eq.mp e] at q
        simp at q
      · exact beq_iff_eq.mp e
    refine wpAny_bind ((looks_subIn X e).here ?_)
    simp only [Bool.false_eq_true, if_false]
    refine wpAny_bind (wpAny_mono one (fun r s' z => ?_) fun _ _ e => e)
    obtain ⟨v, rfl, hq⟩ := z
    exact wpAny_pure hq
  · refine wpAny_bind (wpAny_pure ?_)
    simp only [Bool.false_eq_true, if_false]
    refine wpAny_bind (wpAny_mono one (fun r s' z => ?_) fun _ _ e => e)
    obtain ⟨v, rfl, hq⟩ := z
    exact wpAny_pure hq
/-- the answer is a truth -/
def TruthBack (Q : Bool → Shared → Prop) (v : Value) (s' : Shared) : Prop := ∃ k, v = .bool k ∧ Q k s'
theorem try_eq {Q : Bool → Shared → Prop} (X : K.In s.heap) (I : InstAt s.heap x ox C od) (hs : findIn K (.ref C) "__eq__" = some (some (.ref f))) (hf : isFn K (.ref f) = true)
    (h : wpAny (model prog w) A (call (.ref f) [.ref x, b]) (TruthBack Q) E s) : wpAny (model prog w) A (tryCompare (.ref x) "__eq__" b) (fun r s' => ∃ v, r = some v ∧ TruthBack Q v s') E s := by
  unfold tryCompare
  refine wpAny_bind (ifBound_K X I hs hf (wpAny_mono h (fun v s' hv => ?_) fun _ _ e => e))
  obtain ⟨k, rfl, hq⟩ := hv
  exact wpAny_pure ⟨_, rfl, k, rfl, hq⟩
theorem bind_one : ∀ self, bindSpecial (.builtin "object.__ne__") self = pure (.builtin "object.__ne__", [self]) := F.cmp_object.ne.bind
theorem ifBound_ne {args : List Value} {Q : Option Value → Shared → Prop} {M : Model} (X : K.In s.heap) (I : InstAt s.heap x ox C od) (hs : findIn K (.ref C) "__ne__" = some (some (.builtin "object.__ne__")))
    (h : wpAny M A (call (.builtin "object.__ne__") (.ref x :: args)) (fun v => Q (some v)) E s) : wpAny M A (callSpecialIfBound? (.ref x) "__ne__" args) Q E s := by
  simp only [callSpecialIfBound?, bindSpecialIfBound?]
  refine wpAny_holding (wpAny_bind (wpAny_bind (wpAny_bind (I.type.here ((looks_findIn X hs).here ?_)))))
  refine wpAny_bind (wpAny_askSetting (wpAny_ite ?_))
  have fin : wpAny M A (call (.builtin "object.__ne__") ([.ref x] ++ args) >>= fun v => pure (some v)) Q E s := wpAny_bind (wpAny_mono h (fun v s' h' => wpAny_pure h') fun _ _ h' => h')
  split
  · exact wpAny_bind (wpAny_of_eq (bind_one _) (wpAny_pure (by exact fin)))
  · exact wpAny_tryCatch (wpAny_bind (wpAny_of_eq (bind_one _) (wpAny_pure (by exact fin))))
theorem ne_entry {Q : Fin → Shared → Prop} (hu : A.units < cLine) (X : K.In s.heap) (I : InstAt s.heap x ox C od) (hs : findIn K (.ref C) "__eq__" = some (some (.ref f))) (hf : isFn K (.ref f) = true)
    (h : wpAny (model prog w) A (call (.ref f) [.ref x, b]) (TruthBack fun k s' => Q (.done (.ret (.bool (!k)))) s') E s) :
    wpAny (model prog w) A (Builtin.«object.__ne__» ⟨[.ref x, b], []⟩) Q E s := by
  unfold Builtin.«object.__ne__»
  repeat (first
    | with_reducible refine wpAny_cRoomFor hu ?_
    | (refine wpAny_bind (m := callSpecialIfBound? (.ref x) (Str.ofString "__eq__") [b])
        (ifBound_K X I hs hf (wpAny_mono h (fun r s' hr => by
          obtain ⟨k, rfl, hq⟩ := hr
          repeat (first | exact hq | exact wpAny_pure hq | exact wpAny_truthy_bool hq | (refine wpAny_bind (m := truthy (.bool _)) (wpAny_truthy_bool ?_)) | wp_step)) fun _ _ e => e)))
    | wp_step)
theorem try_ne {Q : Bool → Shared → Prop} (hu : A.in1.units < cLine) (X : K.In s.heap) (I : InstAt s.heap x ox C od) (hn : findIn K (.ref C) "__ne__" = some (some (.builtin "object.__ne__"))) (hm : mroIn K C (.type "object") = some true)
    (hs : findIn K (.ref C) "__eq__" = some (some (.ref f))) (hf : isFn K (.ref f) = true)
    (h : wpAny (model prog w) A.in1 (call (.ref f) [.ref x, b]) (TruthBack fun k s' => Q (!k) s') E s) : wpAny (model prog w) A (tryCompare (.ref x) "__ne__" b) (fun r s' => ∃ v, r = some v ∧ TruthBack Q v s') E s := by
  unfold tryCompare
  refine wpAny_bind (ifBound_ne X I hn (wpAny_call (codeAny_call_builtin F.cmp_object.ne.plain F.cmpEntry_ne
    (check_slot F.cmpKind_ne F.cmpSplit_ne (I.type.andThen (looks_mroIn X hm)) (F.cmpArgs_ne _ _) (ne_entry hu X I hs hf (wpAny_mono h (fun v s' hv => ?_) fun _ _ e => e))))))
  obtain ⟨k, rfl, hq⟩ := hv
  exact ⟨k, rfl, wpAny_pure ⟨_, rfl, _, rfl, hq⟩⟩
theorem in_own {Q : Bool → Shared → Prop} (X : K.In s.heap) (I : InstAt s.heap x ox C od) (hs : findIn K (.ref C) "__contains__" = some (some (.ref f))) (hf : isFn K (.ref f) = true)
    (h : wpAny (model prog w) A (call (.ref f) [.ref x, b]) (TruthBack Q) E s) : wpAny (model prog w) A (contains (.ref x) b) Q E s := by
  unfold contains
  refine wpAny_holding ?_
  simp only [stdlibNamesSay?]
  refine wpAny_bind (wpAny_bind (I.type.here ((looks_findIn X hs).here ?_)))
  simp only [callSpecialUnlessNone?]
  have e : (some (Value.ref f) == some Value.none) = false := rfl
  rw [e]
  simp only [Bool.false_eq_true, if_false]
  refine wpAny_bind (wpAny_bind (wpAny_bind (I.type.here ((looks_findIn X hs).here (wpAny_holding (wpAny_bind ((bind_fn X _ (beq_iff_eq.mp hf)).here ?_)))))))
  have e2 : (Value.ref f == Value.none) = false := rfl
  simp only [e2, Bool.false_eq_true, if_false]
  refine wpAny_bind (wpAny_mono h (fun v s' hv => ?_) fun _ _ e => e)
  obtain ⟨k, rfl, hq⟩ := hv
  exact wpAny_pure (wpAny_truthy_bool hq)
end
section
variable {X : Cx} {CX : CXT} {n : Nat} {C f : Addr} {fd : FuncData} {ps : List Str} {sp : Sp} {E : XK}
/-- an own method called by the machine -/
theorem own_call {pins : List (Addr × Obj)} {σ : L2.St} {H : Hp} {s : Shared} {A : Around} {xs : List V} {us : List Value} {Q : VK} (I : Inv X pins σ H s) (hA : A.frames = X.A.frames) (hr : Room n A)
    (G : FnOk X.prog X.w X.K X.mg X.base CX n f fd ps sp) (hb : Binds X.K fd ps []) (hx : Passes CX X E) (rv : Vals xs us) (h : sp xs H Q E) :
    wpAny (model X.prog X.w) A (call (.ref f) us) (EP X pins σ Q) X.xe s := by
  have e0 : Env0 X.prog X.w X.K X.mg X.base A X.stack s H := by
    have e := I.env0
    exact ⟨by rw [hA]; exact e.frames, e.mod, e.bs, e.bsz, e.funs, e.frf, e.hok, e.bare⟩
  have hl := G.len _ _ _ _ h
  refine wpAny_call (codeAny_mono (G.run A X.stack s H ⟨us, []⟩ us xs Q E hr e0 (by
    have := hb s us I.kIn (by rw [List.append_nil, ← rv.length]; exact hl)
    simpa using this) rv h) fun r s' hq => ?_)
  cases r with
  | error e => exact hx pins σ H s e s' I hq
  | ok fl =>
    cases fl with
    | ret u => exact I.after hq
    | next => exact False.elim hq
    | brk => exact False.elim hq
    | cont => exact False.elim hq
/-- an answer that is a truth -/
def Tr1 (Q : Bool → Hp → Prop) : VK := fun v H => ∃ k, v = .bl k ∧ Q k H
def rOwn2 (K : Frag) (C : Addr) (sp : Sp) (E : XK) (g : Bool → Bool) : R2 := fun x y H Q => ∃ a dx fs t, x = .ref a ∧ H a = some (.ins C dx fs) ∧ TyX K H y t ∧ notFirst K C t = true ∧ sp [.ref a, y] H (Tr1 fun k H' => Q (.bl (g k)) H') E
theorem op_eqOwn (G : FnOk X.prog X.w X.K X.mg X.base CX n f fd ps sp) (hs : findIn X.K (.ref C) "__eq__" = some (some (.ref f))) (hf : isFn X.K (.ref f) = true) (hb : Binds X.K fd ps []) (hx : Passes CX X E) (hr : Room n X.A) :
    OpR X (compareOp .Eq) (rOwn2 X.K C sp E id) := by
  intro pins s σ H x y v u Q I rx ry h
  obtain ⟨a, dx, fs, t, rfl, ha, ty, nf, q⟩ := h
  cases rx
  obtain ⟨mA, J, _⟩ := ins_get I.hok ha
  obtain ⟨od, J, _⟩ := J.look
  obtain ⟨P, Z, p, _⟩ := kit_of I ry ty
  show wpAny (model X.prog X.w) X.A (richCompare .Eq (.ref a) u) (EP X pins σ Q) X.xe s
  refine wpAny_mono (rc_one (op := .Eq) (Q := TruthBack fun k s' => EP X pins σ Q (.bool k) s') hr.units0 I.kIn J (Z.ty _ _ I.kIn p) nf (try_eq I.kIn J hs hf (wpAny_mono (own_call I rfl hr G hb hx (.cons (show L2.RelV (.ref a) (Value.ref a) from rfl) (.cons ry .nil)) q) (fun r s' z => ?_) fun _ _ e => e))) (fun r s' z => ?_) fun _ _ e => e
  · obtain ⟨v, H', I', rv, k, rfl, q'⟩ := z
    cases rv
    exact ⟨k, rfl, .bl k, H', I', rfl, q'⟩
  · obtain ⟨k, rfl, q'⟩ := z
    exact q'
theorem op_neOwn (G : FnOk X.prog X.w X.K X.mg X.base CX n f fd ps sp) (hne : findIn X.K (.ref C) "__ne__" = some (some (.builtin "object.__ne__"))) (hm : mroIn X.K C (.type "object") = some true) (hs : findIn X.K (.ref C) "__eq__" = some (some (.ref f))) (hf : isFn X.K (.ref f) = true) (hb : Binds X.K fd ps []) (hx : Passes CX X E) (hr : Room (n + 1) X.A) :
    OpR X (compareOp .NotEq) (rOwn2 X.K C sp E not) := by
  intro pins s σ H x y v u Q I rx ry h
  obtain ⟨a, dx, fs, t, rfl, ha, ty, nf, q⟩ := h
  cases rx
  obtain ⟨mA, J, _⟩ := ins_get I.hok ha
  obtain ⟨od, J, _⟩ := J.look
  obtain ⟨P, Z, p, _⟩ := kit_of I ry ty
  show wpAny (model X.prog X.w) X.A (richCompare .NotEq (.ref a) u) (EP X pins σ Q) X.xe s
  refine wpAny_mono (rc_one (op := .NotEq) (Q := TruthBack fun k s' => EP X pins σ Q (.bool k) s') hr.units0 I.kIn J (Z.ty _ _ I.kIn p) nf (try_ne hr.in1.units0 I.kIn J hne hm hs hf (wpAny_mono (own_call (A := X.A.in1) I rfl hr.in1 G hb hx (.cons (show L2.RelV (.ref a) (Value.ref a) from rfl) (.cons ry .nil)) q) (fun r s' z => ?_) fun _ _ e => e))) (fun r s' z => ?_) fun _ _ e => e
  · obtain ⟨v, H', I', rv, k, rfl, q'⟩ := z
    cases rv
    exact ⟨k, rfl, .bl (!k), H', I', rfl, q'⟩
  · obtain ⟨k, rfl, q'⟩ := z
    exact q'
def rOwnIn (C : Addr) (sp : Sp) (E : XK) : R2 := fun x y H Q => ∃ a dx fs, y = .ref a ∧ H a = some (.ins C dx fs) ∧ sp [.ref a, x] H (Tr1 fun k H' => Q (.bl k) H') E
theorem op_inOwn (G : FnOk X.prog X.w X.K X.mg X.base CX n f fd ps sp) (hs : findIn X.K (.ref C) "__contains__" = some (some (.ref f))) (hf : isFn X.K (.ref f) = true) (hb : Binds X.K fd ps []) (hx : Passes CX X E) (hr : Room n X.A) :
    OpR X (compareOp .In) (rOwnIn C sp E) := by
  intro pins s σ H x y v u Q I rx ry h
  obtain ⟨a, dx, fs, rfl, ha, q⟩ := h
  cases ry
  obtain ⟨mA, J, _⟩ := ins_get I.hok ha
  obtain ⟨od, J, _⟩ := J.look
  unfold compareOp
  refine wpAny_bind (in_own I.kIn J hs hf (wpAny_mono (own_call I rfl hr G hb hx (.cons (show L2.RelV (.ref a) (Value.ref a) from rfl) (.cons rx .nil)) q) (fun r s' z => ?_) fun _ _ e => e))
  obtain ⟨v, H', I', rv, k, rfl, q'⟩ := z
  cases rv
  exact ⟨k, rfl, wpAny_pure ⟨.bl k, H', I', rfl, q'⟩⟩
def rOwn1 (C : Addr) (sp : Sp) (E : XK) (R : V → Prop) : List V → Hp → VK → Prop := fun xs H Q => ∃ a dx fs, xs = [.ref a] ∧ H a = some (.ins C dx fs) ∧ sp [.ref a] H (fun v H' => R v ∧ Q v H') E
theorem cr_lenOwn (G : FnOk X.prog X.w X.K X.mg X.base CX n f fd ps sp) (hs : findIn X.K (.ref C) "__len__" = some (some (.ref f))) (hf : isFn X.K (.ref f) = true) (hb : Binds X.K fd ps []) (hx : Passes CX X E) (hr : Room (n + 1) X.A) :
    CallR X (.builtin "len") (rOwn1 C sp E fun v => ∃ m : Nat, v = .int m ∧ m < 1000000) := by
  intro pins s σ H xs us Q I r h
  obtain ⟨a, dx, fs, rfl, ha, q⟩ := h
  obtain ⟨u, rfl, rx⟩ := vals1 r
  cases rx
  obtain ⟨mA, J, _⟩ := ins_get I.hok ha
  obtain ⟨od, J, _⟩ := J.look
  obtain ⟨m, hF⟩ := I.fr
  refine len_K hF I.ok.mod.kin J hs hf (wpAny_mono (own_call (A := X.A.in1) I rfl hr.in1 G hb hx (.cons (show L2.RelV (.ref a) (Value.ref a) from rfl) .nil) q) (fun r s' z => ?_) fun _ _ e => e)
  obtain ⟨v, H', I', rv, ⟨k, rfl, hk⟩, q'⟩ := z
  obtain ⟨t, rfl⟩ := rv
  exact ⟨⟨by omega, by omega⟩, .int k, H', I'.tok _, ⟨_, rfl⟩, q'⟩
theorem cr_strOwn (G : FnOk X.prog X.w X.K X.mg X.base CX n f fd ps sp) (hs : findIn X.K (.ref C) "__str__" = some (some (.ref f))) (hf : isFn X.K (.ref f) = true) (hb : Binds X.K fd ps []) (hx : Passes CX X E) (hr : Room (n + 2) X.A) :
    CallR X (.type "str") (rOwn1 C sp E fun v => ∃ y, v = .str y) := by
  intro pins s σ H xs us Q I r h
  obtain ⟨a, dx, fs, rfl, ha, q⟩ := h
  obtain ⟨u, rfl, rx⟩ := vals1 r
  cases rx
  obtain ⟨mA, J, _⟩ := ins_get I.hok ha
  obtain ⟨od, J, _⟩ := J.look
  refine kso_call hr.in1.in1.units0 I.kIn J hs hf (wpAny_mono (own_call (A := X.A.in1.in1) I rfl hr.in1.in1 G hb hx (.cons (show L2.RelV (.ref a) (Value.ref a) from rfl) .nil) q) (fun r s' z => ?_) fun _ _ e => e)
  obtain ⟨v, H', I', rv, ⟨y, rfl⟩, q'⟩ := z
  obtain ⟨t, rfl⟩ := rv
  exact ⟨.str y, H', I', ⟨_, rfl⟩, q'⟩
end
end TS
namespace TS
open PySem L2
abbrev sTStr : Stmt := (inClass (top 45) 2)
abbrev sTEq : Stmt := (inClass (top 45) 3)
abbrev sTLen : Stmt := (inClass (top 45) 4)
abbrev sTIn : Stmt := (inClass (top 45) 5)
abbrev sTDepth : Stmt := (inClass (top 45) 7)
abbrev sTVars : Stmt := (inClass (top 45) 9)
abbrev sTCons : Stmt := (inClass (top 45) 10)
abbrev sTParts : Stmt := (inClass (top 45) 11)
section
variable {P : Program} {w : World} {K : PySem.W.Frag} {mg : Str → Option Value} {base : Heap}
/-! ### comprehensions whose element is made by a call; what is told of each item stays -/
/-- value by value, each with its item's promise -/
def Each {α : Type} (R : Hp → V → α → Prop) (H : Hp) (vs : List V) (ts : List α) : Prop := vs.length = ts.length ∧ ∀ (i : Nat) v t, vs[i]? = some v → ts[i]? = some t → R H v t
theorem Each.nil {α : Type} {R : Hp → V → α → Prop} {H : Hp} : Each R H [] [] := ⟨rfl, fun i v t h _ => by simp at h⟩
theorem Each.imp {α : Type} {R R' : Hp → V → α → Prop} {H H' : Hp} {vs : List V} {ts : List α} (h : Each R H vs ts) (s : ∀ v t, R H v t → R' H' v t) : Each R' H' vs ts := ⟨h.1, fun i v t a b => s _ _ (h.2 i v t a b)⟩
theorem Each.snoc {α : Type} {R : Hp → V → α → Prop} {H : Hp} {vs : List V} {ts : List α} {v : V} {t : α} (h : Each R H vs ts) (g : R H v t) : Each R H (vs ++ [v]) (ts ++ [t]) := by
  refine ⟨by simp [h.1], fun i a b ha hb => ?_⟩
  by_cases hi : i < vs.length
  · rw [List.getElem?_append_left hi] at ha
    rw [List.getElem?_append_left (by rw [← h.1]; exact hi)] at hb
    exact h.2 i a b ha hb
  · rw [List.getElem?_append_right (by omega)] at ha
    rw [List.getElem?_append_right (by rw [← h.1]; omega), ← h.1] at hb
    cases hq : i - vs.length with
    | zero =>
      rw [hq] at ha hb
      simp at ha hb
      subst ha hb
      exact g
    | succ k =>
      rw [hq] at ha
      simp at ha
theorem Each.take {α : Type} {R : Hp → V → α → Prop} {H : Hp} {vs : List V} {ts : List α} (h : Each R H vs ts) (n : Nat) : Each R H (vs.take n) (ts.take n) := by
  refine ⟨by simp [h.1], fun i v t a b => ?_⟩
  rw [List.getElem?_take] at a b
  split at a
  · rename_i hi
    rw [if_pos hi] at b
    exact h.2 i v t a b
  · cases a
/-- [e for x in tuple], e a call that leaves all as it is -/
theorem lc_eachT {α : Type} (R : Hp → V → α → Prop) {p D : Addr} {xs : List V} {ts : List α} {k : Nat} {te : TE} {σ : St} {H : Hp} {Qd : Hp → Prop} (hp : H p = some (.tup xs)) (hl : ts.length = xs.length) (h6 : xs.length ≤ 1000) (hD : H D = none)
    (hw : ∀ v, wipe ((wipe σ [k]).set k v) [k] = wipe σ [k])
    (step : ∀ (i : Nat) (x : V) (t : α) (H1 : Hp) (G : VK), xs[i]? = some x → ts[i]? = some t → Same H H1 → Lists [D] H1 → (∀ (y : V) H2, Same H1 H2 → (∀ H3, SameOff [D] H2 H3 → R H3 y t) → G y H2) → te ((wipe σ [k]).set k (some x)) H1 G)
    (hd : ∀ H1 ys, Same H H1 → H1 D = some (.lst ys) → Each R H1 ys ts → Qd H1) :
    ∃ W : Nat → Nat → Hp → Prop, (∃ m, W 0 m (upd H D (.lst []))) ∧ ∀ i m H, W i m H →
      ((Itt K p).stop i H ∧ Qd H) ∨ ((Itt K p).go i H ∧ ∃ Nx : Hp → Prop, (∀ H', Nx H' → ∃ m', m' < m ∧ W (i + 1) m' H') ∧ ∀ x H', (Itt K p).yld i H x H' → gName k x (wipe σ [k]) H' fun σ2 H2 => wipe σ2 [k] = wipe σ [k] ∧ tYes σ2 H2 fun b H3 =>
        if b = true then te σ2 H3 fun y H4 => ∃ acc, H4 D = some (.lst acc) ∧ acc.length < sizeLine ∧ Nx (upd H4 D (.lst (acc ++ [y]))) else Nx H3) := by
  refine lc_tup (K := K) (a := p) (xs := xs) (fun i H1 => Same H H1 ∧ ∃ ys, H1 D = some (.lst ys) ∧ Each (fun G v t => ∀ H3, SameOff [D] G H3 → R H3 v t) H1 ys (ts.take i)) ⟨same_upd hD _, [], upd_same, Each.nil⟩ (fun i H1 _ z => SqT.of (z.1 _ _ hp)) (fun i x H1 hx z => ?_) (fun H1 z => ?_)
  · obtain ⟨s1, ys, d1, e1⟩ := z
    have hi : i < xs.length := (List.getElem?_eq_some_iff.mp hx).1
    have ht : ts[i]? = some ts[i] := List.getElem?_eq_getElem (by omega)
    refine ⟨hw _, ?_⟩
    unfold tYes
    dsimp only
    rw [if_pos rfl]
    refine step i x ts[i] H1 _ hx ht s1 (fun b m => by rw [List.mem_singleton.mp m]; exact ⟨ys, d1⟩) fun y H2 s2 r2 => ?_
    refine ⟨ys, s2 _ _ d1, ?_, ?_⟩
    · have := e1.1
      rw [List.length_take] at this
      exact small1000 (by omega)
    · refine ⟨fun b o q => ?_, ys ++ [y], upd_same, ?_⟩
      · rw [upd_ne (ne_of_none q hD)]
        exact s2 _ _ (s1 _ _ q)
      · have e2 : Each (fun G v t => ∀ H3, SameOff [D] G H3 → R H3 v t) (upd H2 D (.lst (ys ++ [y]))) (ys ++ [y]) (ts.take i ++ [ts[i]]) :=
          ((e1.imp fun v t h H3 s3 => h H3 ((Same.off s2).trans s3)).snoc (R := fun G v t => ∀ H3, SameOff [D] G H3 → R H3 v t) (H := H2) r2).imp fun v t h H3 s3 => h H3 ((off_upd (SameOff.refl _ _) (by simp)).trans s3)
        rw [List.take_succ, ht]
        exact e2
  · obtain ⟨s1, ys, d1, e1⟩ := z
    rw [List.take_of_length_le (by omega)] at e1
    exact hd H1 ys s1 d1 (e1.imp fun v t h => h H1 (SameOff.refl _ _))
/-! ### a Term made -/
/-- the class Term, made by its __init__ -/
def HasTerm (P : Program) (w : World) (K : PySem.W.Frag) (mg : Str → Option Value) (base : Heap) (C : Addr) : Prop :=
  ∃ (f : Addr) (fd : FuncData), Mk K C f ∧ Binds K fd ["self", "value"] [] ∧ FnOk P w K mg base CX0 12 f fd ["self", "value"] (spTInit C)
theorem Makes.same {C : Addr} {H H' : Hp} {x : V} {t : Tr} (h : Makes C H x t) (s : Same H H') : Makes C H' x t := by
  rcases h with h | h | ⟨a, e, h⟩
  · exact .inl h
  · exact .inr (.inl h)
  · exact .inr (.inr ⟨a, e, h.same s⟩)
theorem make_read {C : Addr} {H : Hp} {x : V} {t : Tr} {Q : VK} {E : XK} (hm : Makes C H x t) (hf : t.fine) (hd : t.deep ≤ 3) (q : ∀ H' a, Same H H' → H a = none → (∀ Ds, Lists Ds H → ∀ G, SameOff Ds H' G → TermAt C G a t) → Q (.ref a) H') :
    ∀ a dx, H a = none → H dx = none → dx ≠ a → spTInit C (.ref a :: ([x] ++ [])) (upd (upd H dx (.own a)) a (.ins C dx [])) (fun v H2 => v = .non ∧ Q (.ref a) H2) E := by
  intro a dx na nd ne
  have s0 : Same H (upd (upd H dx (.own a)) a (.ins C dx [])) := fun b o e => by
    rw [upd_ne (ne_of_none e na), upd_ne (ne_of_none e nd)]
    exact e
  refine ⟨a, dx, x, t, rfl, upd_same, hm.same s0, hf, hd, fun H' sx ht => ⟨rfl, q H' a (fun b o e => sx b o (s0 b o e) (ne_of_none e na)) na fun Ds hDs => ht Ds fun D m => let ⟨xs, e⟩ := hDs D m; ⟨xs, s0 _ _ e⟩⟩⟩
/-! ### methods -/
def spTStr (C : Addr) : Sp := fun vs H Q _ => ∃ (p : Addr) (t : Tr), vs = [.ref p] ∧ TermAt C H p t ∧ Q (.str t.text) H
theorem scSelf (s : Stmt) (h : (defScope s) = defScope s) : True := True.intro
theorem scTStr : FnScope ["self"] ["self"] (defScope sTStr) := ⟨rfl, rfl, rfl, by decide +kernel, rfl, by decide +kernel, by decide +kernel⟩
theorem ok_tstr {C f : Addr} {fd : FuncData} (F : Fun K "__str__" "Term.__str__" sTStr f fd) (T : BltT mg) (TK : TermK K mg C) : FnOk P w K mg base CX0 1 f fd ["self"] (spTStr C) := by
  refine F.ok scTStr (fun vs H Q E h => ?_) (fun cdv A outer s H vs Q E hr h => ?_)
  · obtain ⟨p, t, rfl, _⟩ := h
    rfl
  obtain ⟨p, t, rfl, ht, q⟩ := h
  refine ⟨_, pss_one (ps_ret (pe_callTy SkE.call_str_str (by rfl) T.str (by decide +kernel) (pa_cons (pe_fld (pv 0) rfl) pa_nil))), ?_⟩
  obtain ⟨_, _, dx, v, l, qq, r, ws, ns, h1, _⟩ := ht
  exact ⟨_, rfl, p, C, dx, _, _, rfl, h1, TK.cl, TK.n2, tfs_text _ _ _ _ _ _ _, _, rfl, q⟩
def spTEq (K : PySem.W.Frag) (C : Addr) : Sp := fun vs H Q _ => ∃ (p : Addr) (t : Tr) (y : V), vs = [.ref p, y] ∧ TermAt C H p t ∧
  ((∃ a u, y = .ref a ∧ TermAt C H a u ∧ Q (.bl (decide (V.str t.text = V.str u.text))) H) ∨ (∃ ty, TyX K H y ty ∧ PySem.W.kitOne K ty (.ref C) = some false ∧ Q (.bl false) H))
theorem scTEq : FnScope ["self", "other"] ["self", "other"] (defScope sTEq) := ⟨rfl, rfl, rfl, by decide +kernel, rfl, by decide +kernel, by decide +kernel⟩
theorem ok_teq {C f : Addr} {fd : FuncData} (F : Fun K "__eq__" "Term.__eq__" sTEq f fd) (T : BltT mg) (TK : TermK K mg C) : FnOk P w K mg base CX0 1 f fd ["self", "other"] (spTEq K C) := by
  refine F.ok scTEq (fun vs H Q E h => ?_) (fun cdv A outer s H vs Q E hr h => ?_)
  · obtain ⟨p, t, y, rfl, _⟩ := h
    rfl
  obtain ⟨p, t, y, rfl, ht, q⟩ := h
  refine ⟨_, pss_one (ps_ret (pe_and (pe_callB call_isi (by rfl) T.isi bIsi (pa_cons (pv 1) (pa_cons (pe_glob rfl TK.mgC (show RelV (.ref C) (.ref C) from rfl)) pa_nil)))
    (pe_one (pe_cmpR op_eq (pe_fld (pv 0) rfl) (pe_fld (pv 1) rfl) (nomark _))))), ?_⟩
  obtain ⟨_, _, dx, v, l, qq, r, ws, ns, h1, _⟩ := ht
  rcases q with ⟨a, u, rfl, ha, q⟩ | ⟨ty, hty, kt, q⟩
  · obtain ⟨_, _, dx2, v2, l2, q2, r2, ws2, ns2, h2, _⟩ := ha
    refine ⟨_, rfl, _, _, _, _, _, rfl, .own C, TK.ty h2, TK.kC, _, rfl, iteT ?_⟩
    exact ⟨_, rfl, p, C, dx, _, _, rfl, h1, TK.cl, TK.n2, tfs_text _ _ _ _ _ _ _, _, rfl, a, C, dx2, _, _, rfl, h2, TK.cl, TK.n2, tfs_text _ _ _ _ _ _ _, rfl, q⟩
  · exact ⟨_, rfl, _, _, _, _, _, rfl, .own C, hty, kt, _, rfl, iteF q⟩
def spTLen (C : Addr) : Sp := fun vs H Q _ => ∃ (p : Addr) (t : Tr), vs = [.ref p] ∧ TermAt C H p t ∧ Q (.int t.leaves.length) H
theorem scTLen : FnScope ["self"] ["self"] (defScope sTLen) := ⟨rfl, rfl, rfl, by decide +kernel, rfl, by decide +kernel, by decide +kernel⟩
theorem ok_tlen {C f : Addr} {fd : FuncData} (F : Fun K "__len__" "Term.__len__" sTLen f fd) (T : BltT mg) (TK : TermK K mg C) : FnOk P w K mg base CX0 1 f fd ["self"] (spTLen C) := by
  refine F.ok scTLen (fun vs H Q E h => ?_) (fun cdv A outer s H vs Q E hr h => ?_)
  · obtain ⟨p, t, rfl, _⟩ := h
    rfl
  obtain ⟨p, t, rfl, ht, q⟩ := h
  refine ⟨_, pss_one (ps_ret (pe_callB call_len_seq (by rfl) T.len PySem.boot_len (pa_cons (pe_fld (pv 0) rfl) pa_nil))), ?_⟩
  obtain ⟨_, _, dx, v, l, qq, r, ws, ns, h1, _, h3, _⟩ := ht
  exact ⟨_, rfl, p, C, dx, _, _, rfl, h1, TK.cl, TK.n5, tfs_leaves _ _ _ _ _ _ _, l, _, rfl, .inl (SqL.of h3), q⟩
theorem inV_str (x : Str) (ws : List Str) : inV (.str x) (ws.map V.str) = decide (x ∈ ws) := by
  unfold inV
  rw [List.any_map]
  induction ws with
  | nil => rfl
  | cons y ws ih =>
    rw [List.any_cons, ih]
    rw [Bool.eq_iff_iff]
    simp only [eqV, Function.comp_apply, Bool.or_eq_true, beq_iff_eq, decide_eq_true_eq, List.mem_cons]
    constructor
    · rintro (h | h)
      · exact .inl h.symm
      · exact .inr h
    · rintro (h | h)
      · exact .inl h.symm
      · exact .inr h
theorem inV_int (x : Int) (ns : List Int) : inV (.int x) (ns.map V.int) = decide (x ∈ ns) := by
  unfold inV
  rw [List.any_map]
  induction ns with
  | nil => rfl
  | cons y ws ih =>
    rw [List.any_cons, ih]
    rw [Bool.eq_iff_iff]
    simp only [eqV, Function.comp_apply, Bool.or_eq_true, beq_iff_eq, decide_eq_true_eq, List.mem_cons]
    constructor
    · rintro (h | h)
      · exact .inl h.symm
      · exact .inr h
    · rintro (h | h)
      · exact .inl h.symm
      · exact .inr h
theorem flat_str (ws : List Str) : (ws.map V.str).all flatV = true := by simp [flatV]
theorem flat_int (ns : List Int) : (ns.map V.int).all flatV = true := by simp [flatV]
def spTIn (K : PySem.W.Frag) (C : Addr) : Sp := fun vs H Q _ => ∃ (p : Addr) (t : Tr) (y : V), vs = [.ref p, y] ∧ TermAt C H p t ∧
  ((∃ x, y = .str x ∧ Q (.bl (decide (x ∈ t.words))) H) ∨
   (∃ (ty : Value) (i b : Bool), TyX K H y ty ∧ PySem.W.kitOne K ty (.type "str") = some false ∧ PySem.W.kitOne K ty (.type "int") = some i ∧ PySem.W.kitOne K ty (.type "bool") = some b ∧
      (((i && !b) = true ∧ ∃ n : Int, y = .int n ∧ Q (.bl (decide (n ∈ t.nums))) H) ∨ ((i && !b) = false ∧ Q (.bl false) H))))
theorem scTIn : FnScope ["self", "value"] ["self", "value"] (defScope sTIn) := ⟨rfl, rfl, rfl, by decide +kernel, rfl, by decide +kernel, by decide +kernel⟩
theorem perm_in {κ : Type} [DecidableEq κ] {ws ss : List κ} (h : ws.Perm (once ss)) (x : κ) : decide (x ∈ ws) = decide (x ∈ ss) :=
  decide_eq_decide.mpr (by rw [h.mem_iff, once_mem])
theorem ok_tin {C f : Addr} {fd : FuncData} (F : Fun K "__contains__" "Term.__contains__" sTIn f fd) (T : BltT mg) (TK : TermK K mg C) (D1 : Has P w K mg base "is_number" 1 ["value"] (spNum K)) : FnOk P w K mg base CX0 2 f fd ["self", "value"] (spTIn K C) := by
  obtain ⟨f1, fd1, m1, k1, b1, G1⟩ := D1
  refine F.ok scTIn (fun vs H Q E h => ?_) (fun cdv A outer s H vs Q E hr h => ?_)
  · obtain ⟨p, t, y, rfl, _⟩ := h
    rfl
  obtain ⟨p, t, y, rfl, ht, q⟩ := h
  refine ⟨_, pss_cons (ps_if (pt_val (pe_callB call_isi (by rfl) T.isi bIsi (pa_cons (pv 1) (pa_cons (pe_bltn (by rfl) T.str (v := .ty "str") (by decide +kernel) rfl) pa_nil)))) (pss_one (ps_ret (pe_cmpR op_in_seq (pv 1) (pe_fld (pv 0) rfl) (by rfl)))) pss_nil)
    (pss_one (ps_ret (pe_and (pe_call G1 hr rfl m1 k1 b1 .nil pass0 (pa_cons (pv 1) pa_nil)) (pe_one (pe_cmpR op_in_seq (pv 1) (pe_fld (pv 0) rfl) (by rfl)))))), ?_⟩
  obtain ⟨_, _, dx, v, l, qq, r, ws, ns, h1, _, h3, h4, h5, h6, h7, h8, h9⟩ := ht
  rcases q with ⟨x, rfl, q⟩ | ⟨ty, i, b, hty, ks, ki, kb, q⟩
  · refine ⟨_, rfl, _, _, _, _, _, rfl, .ty "str", .base (.str x), kit_ty (r := true) (by decide +kernel), _, rfl, iteT ?_⟩
    refine ⟨_, rfl, _, rfl, p, C, dx, _, _, rfl, h1, TK.cl, TK.n6, tfs_vars _ _ _ _ _ _ _, qq, _, rfl, .inl (SqL.of h4), rfl, flat_str ws, ?_⟩
    have e : inV (.str x) (ws.map V.str) = decide (x ∈ t.words) := (inV_str x ws).trans (perm_in h6 x)
    rw [if_neg Bool.false_ne_true, e]
    exact q
  · refine ⟨_, rfl, _, _, _, _, _, rfl, .ty "str", hty, ks, _, rfl, iteF ?_⟩
    refine ⟨_, rfl, y, ty, i, b, rfl, hty, ki, kb, _, rfl, ?_⟩
    rcases q with ⟨e, n, rfl, q⟩ | ⟨e, q⟩
    · rw [e]
      refine iteT ⟨_, rfl, _, rfl, p, C, dx, _, _, rfl, h1, TK.cl, TK.n7, tfs_cons _ _ _ _ _ _ _, r, _, rfl, .inl (SqL.of h5), rfl, flat_int ns, ?_⟩
      have e : inV (.int n) (ns.map V.int) = decide (n ∈ t.nums) := (inV_int n ns).trans (perm_in h8 n)
      rw [if_neg Bool.false_ne_true, e]
      exact q
    · rw [e]
      exact iteF q
def spTDepth (C : Addr) : Sp := fun vs H Q _ => ∃ (p : Addr) (t : Tr), vs = [.ref p] ∧ TermAt C H p t ∧ Q (.int t.deep) H
theorem scTDepth : FnScope ["self"] ["self"] (defScope sTDepth) := ⟨rfl, rfl, rfl, by decide +kernel, rfl, by decide +kernel, by decide +kernel⟩
theorem ok_tdepth {C f : Addr} {fd : FuncData} (F : Fun K "depth" "Term.depth" sTDepth f fd) (TK : TermK K mg C) : FnOk P w K mg base CX0 1 f fd ["self"] (spTDepth C) := by
  refine F.ok scTDepth (fun vs H Q E h => ?_) (fun cdv A outer s H vs Q E hr h => ?_)
  · obtain ⟨p, t, rfl, _⟩ := h
    rfl
  obtain ⟨p, t, rfl, ht, q⟩ := h
  refine ⟨_, pss_one (ps_ret (pe_fld (pv 0) rfl)), ?_⟩
  obtain ⟨_, _, dx, v, l, qq, r, ws, ns, h1, _⟩ := ht
  exact ⟨_, rfl, p, C, dx, _, _, rfl, h1, TK.cl, TK.n3, tfs_depth _ _ _ _ _ _ _, q⟩
def spTKind (C : Addr) : Sp := fun vs H Q _ => ∃ (p : Addr) (t : Tr), vs = [.ref p] ∧ TermAt C H p t ∧ Q (.str t.kind) H
def spTVars (C : Addr) : Sp := fun vs H Q _ => ∃ (p : Addr) (t : Tr), vs = [.ref p] ∧ TermAt C H p t ∧ ∀ (l : Addr) (ws : List Str), H l = none → ws.Perm (once t.words) → PyProof.Rows.sortedS ws = true → Q (.ref l) (upd H l (.lst (ws.map V.str)))
theorem scTVars : FnScope ["self"] ["self"] (defScope sTVars) := ⟨rfl, rfl, rfl, by decide +kernel, rfl, by decide +kernel, by decide +kernel⟩
theorem ok_tvars {C f : Addr} {fd : FuncData} (F : Fun K "variables" "Term.variables" sTVars f fd) (ml : mg "list" = none) (TK : TermK K mg C) : FnOk P w K mg base CX0 1 f fd ["self"] (spTVars C) := by
  refine F.ok scTVars (fun vs H Q E h => ?_) (fun cdv A outer s H vs Q E hr h => ?_)
  · obtain ⟨p, t, rfl, _⟩ := h
    rfl
  obtain ⟨p, t, rfl, ht, q⟩ := h
  refine ⟨_, pss_one (ps_ret (pe_callTy call_list_of (by rfl) ml (by decide +kernel) (pa_cons (pe_fld (pv 0) rfl) pa_nil))), ?_⟩
  obtain ⟨_, _, dx, v, l, qq, r, ws, ns, h1, _, h3, h4, h5, h6, h7, _⟩ := ht
  exact ⟨_, rfl, p, C, dx, _, _, rfl, h1, TK.cl, TK.n6, tfs_vars _ _ _ _ _ _ _, qq, _, rfl, .inl (SqL.of h4), fun l hl => q l ws hl h6 h7⟩
def spTCons (C : Addr) : Sp := fun vs H Q _ => ∃ (p : Addr) (t : Tr), vs = [.ref p] ∧ TermAt C H p t ∧ ∀ (l : Addr) (ns : List Int), H l = none → ns.Perm (once t.nums) → ns.Pairwise (· ≤ ·) → Q (.ref l) (upd H l (.lst (ns.map V.int)))
theorem scTCons : FnScope ["self"] ["self"] (defScope sTCons) := ⟨rfl, rfl, rfl, by decide +kernel, rfl, by decide +kernel, by decide +kernel⟩
theorem ok_tcons {C f : Addr} {fd : FuncData} (F : Fun K "constants" "Term.constants" sTCons f fd) (ml : mg "list" = none) (TK : TermK K mg C) : FnOk P w K mg base CX0 1 f fd ["self"] (spTCons C) := by
  refine F.ok scTCons (fun vs H Q E h => ?_) (fun cdv A outer s H vs Q E hr h => ?_)
  · obtain ⟨p, t, rfl, _⟩ := h
    rfl
  obtain ⟨p, t, rfl, ht, q⟩ := h
  refine ⟨_, pss_one (ps_ret (pe_callTy call_list_of (by rfl) ml (by decide +kernel) (pa_cons (pe_fld (pv 0) rfl) pa_nil))), ?_⟩
  obtain ⟨_, _, dx, v, l, qq, r, ws, ns, h1, _, h3, h4, h5, h6, h7, h8, h9⟩ := ht
  exact ⟨_, rfl, p, C, dx, _, _, rfl, h1, TK.cl, TK.n7, tfs_cons _ _ _ _ _ _ _, r, _, rfl, .inl (SqL.of h5), fun l hl => q l ns hl h8 h9⟩
/-! parts -/
def Tr.parts : Tr → List Tr
  | .ch a b c d => [a, b, c, d]
  | _ => []
/-- a value that is a Term of the tree -/
def IsTerm (C : Addr) (H : Hp) (v : V) (t : Tr) : Prop := ∃ a, v = .ref a ∧ TermAt C H a t
theorem IsTerm.same {C : Addr} {H H' : Hp} {v : V} {t : Tr} (h : IsTerm C H v t) (s : Same H H') : IsTerm C H' v t := let ⟨a, e, g⟩ := h; ⟨a, e, g.same s⟩
def spTParts (C : Addr) : Sp := fun vs H Q _ => ∃ (p : Addr) (t : Tr), vs = [.ref p] ∧ TermAt C H p t ∧ ∀ (l : Addr) (ys : List V) (H' : Hp), Same H H' → H l = none → H' l = some (.lst ys) → Each (IsTerm C) H' ys t.parts → Q (.ref l) H'
abbrev nmTParts : List Str := ["self", "part"]
theorem scTParts : FnScope nmTParts ["self"] (defScope sTParts) := ⟨rfl, rfl, rfl, by decide +kernel, rfl, by decide +kernel, by decide +kernel⟩
theorem ok_tparts {C f : Addr} {fd : FuncData} (F : Fun K "parts" "Term.parts" sTParts f fd) (T : BltT mg) (TK : TermK K mg C) (D2 : Has P w K mg base "_text_of" 3 ["tree"] (spText 3)) (DT : HasTerm P w K mg base C) : FnOk P w K mg base CX0 14 f fd ["self"] (spTParts C) := by
  obtain ⟨f2, fd2, m2, k2, b2, G2⟩ := D2
  obtain ⟨f3, fd3, M3, b3, G3⟩ := DT
  refine F.ok scTParts (fun vs H Q E h => ?_) (fun cdv A outer s H vs Q E hr h => ?_)
  · obtain ⟨p, t, rfl, _⟩ := h
    rfl
  obtain ⟨p, t, rfl, ht, q⟩ := h
  have r3 : Room 3 _ := hr.mono (by decide)
  refine ⟨_, pss_cons (ps_if (pt_not (pt_val (pe_callB call_isi (by rfl) T.isi bIsi (pa_cons (pe_fld (pv 0) rfl) (pa_cons (pe_bltn (by rfl) T.tup (v := .ty "tuple") (by decide +kernel) rfl) pa_nil)))))
      (pss_one (ps_ret (pe_lst pa_nil))) pss_nil)
    (pss_one (ps_ret (pe_lc (own := [("part", 1)]) (g := gName 1) (tt := tYes) (by rfl) scTParts.nd (pi_tup (pe_fld (pv 0) rfl)) (blkOk_by (own := [("part", 1)]) (N := nmTParts) (sc := defScope sTParts) (by decide +kernel)) (fun _ _ _ _ _ => pg_name (i := 1) scTParts.nd rfl (Or.inl rfl)) (fun _ _ _ _ _ => pts_nil)
        (fun _ _ _ _ _ => pe_make M3 G3 hr rfl TK.mgC b3 .nil pass0 (pa_cons (pe_call G2 r3 rfl m2 k2 b2 .nil pass0 (pa_cons (pv 1) pa_nil)) pa_nil))))), ?_⟩
  obtain ⟨hf, hd, dx, v, l, qq, r, ws, ns, h1, h2, _⟩ := ht
  obtain ⟨u, c, hty, hk, hc⟩ := isT (K := K) h2
  refine ⟨_, rfl, p, C, dx, _, _, rfl, h1, TK.cl, TK.n1, tfs_tree _ _ _ _ _ _ _, _, _, _, _, _, rfl, .ty "tuple", hty, hk, _, rfl, ?_⟩
  rcases hc with ⟨rfl, a, b', c, d, rfl⟩ | ⟨rfl, hc⟩
  · refine iteF ?_
    cases h2 with
    | ch hp ha hb hc hdd =>
      rename_i p2 y0 y1 y2 y3
      obtain ⟨fa, fb, fc, fdd⟩ := hf
      have dd : a.deep ≤ 2 ∧ b'.deep ≤ 2 ∧ c.deep ≤ 2 ∧ d.deep ≤ 2 := by
        simp only [Tr.deep] at hd
        omega
      refine ⟨_, rfl, p, C, dx, _, _, rfl, h1, TK.cl, TK.n1, tfs_tree _ _ _ _ _ _ _, p2, rfl, ⟨_, SqT.of hp⟩, fun D hD => lc_eachT (K := K) (IsTerm C) (ts := [a, b', c, d]) hp rfl (by show 4 ≤ 1000; decide) hD (fun _ => rfl) (fun i x t H1 G hx ht s1 hLs hG => ?_) (fun H1 ys s1 d1 e1 => q D ys H1 s1 hD d1 e1)⟩
      · have mk : ∀ (x' : V) (t' : Tr), TrAt H x' t' → t'.fine → t'.deep ≤ 2 → x = x' → t = t' → (∃ v, ((wipe (L2.start nmTParts [V.ref p]) [1]).set 1 (some x))[1]? = some (some v) ∧ spText 3 ([v] ++ []) H1 (fun y H2 => ∀ a dx, H2 a = none → H2 dx = none → dx ≠ a → spTInit C (.ref a :: ([y] ++ [])) (upd (upd H2 dx (.own a)) a (.ins C dx [])) (fun v H3 => v = .non ∧ G (.ref a) H3) E0) E0) := by
          intro x' t' hx' hf' hd' e1 e2
          subst e1 e2
          refine ⟨_, rfl, x, t, rfl, hx'.same s1, hf'.small, by omega, Nat.le_trans (text315 hf' (by omega)) (by decide), fun H2 s2 => ?_⟩
          exact make_read (.inl rfl) hf' (by omega) fun H3 a s3 na h3 => hG _ H3 (s2.trans s3) fun H4 s4 => ⟨a, rfl, h3 [D] (fun b m => let ⟨ys, e⟩ := hLs b m; ⟨ys, s2 _ _ e⟩) H4 s4⟩
        rcases i with _ | _ | _ | _ | i
        · cases hx
          cases ht
          exact mk _ _ ha fa dd.1 rfl rfl
        · cases hx
          cases ht
          exact mk _ _ hb fb dd.2.1 rfl rfl
        · cases hx
          cases ht
          exact mk _ _ hc fc dd.2.2.1 rfl rfl
        · cases hx
          cases ht
          exact mk _ _ hdd fdd dd.2.2.2 rfl rfl
        · simp at hx
  · refine iteT ?_
    refine ⟨by show 0 ≤ sizeLine; decide, fun l hl => q l [] _ (same_upd hl _) hl upd_same ?_⟩
    rcases hc with ⟨n, rfl, rfl⟩ | ⟨x, rfl, rfl⟩ <;> exact Each.nil
end
end TS
namespace TS
open PySem L2
abbrev sPool : Stmt := top 102
abbrev sTake : Stmt := top 103
/-- a pool's list: what is left of the cell, and the mixed number -/
def PoolAt (H : Hp) (p : Addr) : Prop := ∃ x y : Int, H p = some (.lst [.int x, .int y]) ∧ 0 ≤ x ∧ 0 ≤ y ∧ y < 2147483647
def spPool (K : PySem.W.Frag) : Sp := fun vs H Q _ => ∃ (a : Addr) (ns : List Int) (k : Int), vs = [.ref a, .int k] ∧ SqL K H a (ns.map V.int) ∧ 0 ≤ k ∧ k ≤ 1000 ∧
  ∀ (p : Addr) (x y : Int), H p = none → 0 ≤ x → 0 ≤ y → y < 2147483647 → Q (.ref p) (upd H p (.lst [.int x, .int y]))
def spTake : Sp := fun vs H Q _ => ∃ (p : Addr) (x y b : Int), vs = [.ref p, .int b] ∧ H p = some (.lst [.int x, .int y]) ∧ 0 ≤ x ∧ 0 ≤ y ∧ y < 2147483647 ∧ 0 < b ∧ b ≤ 1000000000 ∧
  ∀ (r x' y' : Int), 0 ≤ r → r < b → 0 ≤ x' → 0 ≤ y' → y' < 2147483647 → Q (.int r) (upd H p (.lst [.int x', .int y']))
section
variable {P : Program} {w : World} {K : PySem.W.Frag} {mg : Str → Option Value} {base : Heap}
theorem oneB (b : Bool) : (-(2 ^ 64) < (if b = true then (1 : Int) else 0) ∧ (if b = true then (1 : Int) else 0) < 2 ^ 64) ∧ 0 ≤ (if b = true then (1 : Int) else 0) := by
  cases b <;> decide
theorem scPool : FnScope ["script", "k", "cell", "size", "mixed"] ["script", "k"] (defScope sPool) := ⟨rfl, rfl, rfl, by decide +kernel, rfl, by decide +kernel, by decide +kernel⟩
theorem ok_pool {f : Addr} {fd : FuncData} (F : Fun K "_law_pool" "_law_pool" sPool f fd) (T : BltT mg) : FnOk P w K mg base CX0 1 f fd ["script", "k"] (spPool K) := by
  refine F.ok scPool (fun vs H Q E h => ?_) (fun cdv A outer s H vs Q E hr h => ?_)
  · obtain ⟨a, ns, k, rfl, _⟩ := h
    rfl
  obtain ⟨a, ns, k, rfl, hS, k0, k1, q⟩ := h
  refine ⟨_, pss_cons (ps_set (i := 2) scPool.nd rfl (.inl rfl) pe_int)
    (pss_cons (ps_if (pt_cmpR op_lt (pv 1) (pe_callB call_len_seq (by rfl) T.len PySem.boot_len (pa_cons (pv 0) pa_nil)) (nomark _)) (pss_one (ps_set (i := 2) scPool.nd rfl (.inl rfl) (pe_ix ix_list (pv 0) (pv 1) (fun _ _ => rfl)))) pss_nil)
    (pss_cons (ps_set (i := 3) scPool.nd rfl (.inl rfl) (pe_callB (call_max2 rfl) (by rfl) T.max (by decide +kernel) (pa_cons (pe_callTy call_int1 (by rfl) T.int (by decide +kernel) (pa_cons (pv 2) pa_nil))
        (pa_cons (pe_callTy call_int1 (by rfl) T.int (by decide +kernel) (pa_cons (pe_op op_sub (pe_un un_neg pe_int) (pv 2)) pa_nil)) pa_nil))))
    (pss_cons (ps_set (i := 4) scPool.nd rfl (.inl rfl) (pe_op op_mod (pe_callTy call_int1 (by rfl) T.int (by decide +kernel) (pa_cons (pe_op op_mul
        (pe_op op_add (pe_op op_add (pe_op op_add (pe_op op_mod (pe_callTy call_int1 (by rfl) T.int (by decide +kernel) (pa_cons (pv 3) pa_nil)) pe_int) (pe_op op_mul (pe_op op_mul pe_int (pv 1)) (pv 1))) (pe_op op_mul pe_int (pv 1))) pe_int) pe_int) pa_nil)) pe_int))
    (pss_one (ps_ret (pe_lst (pa_cons (pe_op op_mul (pv 3) (pe_callTy call_int1 (by rfl) T.int (by decide +kernel) (pa_cons (pe_cmpR op_ge (pv 3) (pe_op op_pow pe_int pe_int) (nomark _)) pa_nil))) (pa_cons (pv 4) pa_nil)))))))), ?_⟩
  have hl : (ns.map V.int).length = ns.length := List.length_map _
  refine ⟨_, rfl, _, rfl, a, _, rfl, .inl hS, _, _, rfl, rfl, _, rfl, ?_⟩
  have hsz : ∀ c : Int, 0 ≤ (if -1 - c > c then -1 - c else c) := fun c => by
    split <;> omega
  have hat : k < (((ns.map V.int).length : Nat) : Int) → ∃ v, atI (ns.map V.int) k = some (.int v) := fun c => by
    rw [hl] at c
    have hk : k.toNat < ns.length := by omega
    have z : atI (ns.map V.int) ((k.toNat : Nat) : Int) = some (.int ns[k.toNat]) := atI_nat (by rw [List.getElem?_map, List.getElem?_eq_getElem hk] <;> rfl)
    rw [show ((k.toNat : Nat) : Int) = k by omega] at z
    exact ⟨_, z⟩
  refine ite2 (fun c => ?_) (fun c => ?_)
  · obtain ⟨v, hv⟩ := hat (of_decide_eq_true c)
    refine ⟨_, rfl, _, rfl, a, _, _, _, rfl, rfl, hS, hv, ?_⟩
    refine ⟨_, rfl, .inl ⟨_, rfl, _, rfl, _, rfl, _, _, rfl, rfl, .inl ⟨_, rfl, _, _, rfl, ?_⟩⟩⟩
    refine ⟨_, rfl, .inl ⟨_, rfl, _, _, rfl, rfl, (by show (0 : Int) < 2147483629; decide), _, rfl, _, _, rfl, rfl, .inl (by decide), _, rfl, _, _, rfl, rfl, .inr ⟨by omega, by omega⟩, _, _, rfl, rfl, _, rfl, _, _, rfl, rfl, .inl (by decide), _, _, rfl, rfl, _, _, rfl, rfl, _, _, rfl, rfl, .inr (by decide), .inl ⟨_, rfl, _, _, rfl, rfl, (by show (0 : Int) < 2147483647; decide), ?_⟩⟩⟩
    refine ⟨_, rfl, _, rfl, _, _, rfl, rfl, ⟨by decide, by decide, by decide⟩, _, _, rfl, rfl, .inr ⟨_, rfl, _, _, rfl, rfl, .inr (oneB _).1, _, rfl, (by show 2 ≤ sizeLine; decide), fun p hp => ?_⟩⟩
    exact q p _ _ hp (Int.mul_nonneg (hsz v) (oneB _).2) (Int.emod_nonneg _ (by decide)) (Int.emod_lt_of_pos _ (by decide))
  · refine ⟨_, rfl, .inl ⟨_, rfl, _, rfl, _, rfl, _, _, rfl, rfl, .inl ⟨_, rfl, _, _, rfl, ?_⟩⟩⟩
    refine ⟨_, rfl, .inl ⟨_, rfl, _, _, rfl, rfl, (by show (0 : Int) < 2147483629; decide), _, rfl, _, _, rfl, rfl, .inl (by decide), _, rfl, _, _, rfl, rfl, .inr ⟨by omega, by omega⟩, _, _, rfl, rfl, _, rfl, _, _, rfl, rfl, .inl (by decide), _, _, rfl, rfl, _, _, rfl, rfl, _, _, rfl, rfl, .inr (by decide), .inl ⟨_, rfl, _, _, rfl, rfl, (by show (0 : Int) < 2147483647; decide), ?_⟩⟩⟩
    refine ⟨_, rfl, _, rfl, _, _, rfl, rfl, ⟨by decide, by decide, by decide⟩, _, _, rfl, rfl, .inr ⟨_, rfl, _, _, rfl, rfl, .inr (oneB _).1, _, rfl, (by show 2 ≤ sizeLine; decide), fun p hp => ?_⟩⟩
    exact q p _ _ hp (Int.mul_nonneg (hsz 0) (oneB _).2) (Int.emod_nonneg _ (by decide)) (Int.emod_lt_of_pos _ (by decide))
theorem scTake : FnScope ["pool", "bound", "result"] ["pool", "bound"] (defScope sTake) := ⟨rfl, rfl, rfl, by decide +kernel, rfl, by decide +kernel, by decide +kernel⟩
theorem ok_take {f : Addr} {fd : FuncData} (F : Fun K "_law_take" "_law_take" sTake f fd) (T : BltT mg) : FnOk P w K mg base CX0 1 f fd ["pool", "bound"] spTake := by
  refine F.ok scTake (fun vs H Q E h => ?_) (fun cdv A outer s H vs Q E hr h => ?_)
  · obtain ⟨p, x, y, b, rfl, _⟩ := h
    rfl
  obtain ⟨p, x, y, b, rfl, hp, x0, y0, y1, b0, b1, q⟩ := h
  have ix0 : ∀ {H' : Hp} {x' y' : Int}, H' p = some (.lst [.int x', .int y']) → SqL K H' p [.int x', .int y'] := fun h => SqL.of h
  refine ⟨_, pss_cons (ps_if (pt_cmpR op_gt (pe_ix ix_list (pv 0) pe_int (fun _ _ => rfl)) pe_int (nomark _))
      (pss_cons (ps_set (i := 2) scTake.nd rfl (.inl rfl) (pe_op op_mod (pe_callTy call_int1 (by rfl) T.int (by decide +kernel) (pa_cons (pe_ix ix_list (pv 0) pe_int (fun _ _ => rfl)) pa_nil)) (pv 1)))
      (pss_cons (ps_asg (pe_op op_fdiv (pe_ix ix_list (pv 0) pe_int (fun _ _ => rfl)) (pv 1)) (pg_sub (pv 0) pe_int set_list))
      (pss_one (ps_ret (pv 2))))) pss_nil)
    (pss_cons (ps_asg (pe_op op_mod (pe_callTy call_int1 (by rfl) T.int (by decide +kernel) (pa_cons (pe_op op_add (pe_op op_mul (pe_ix ix_list (pv 0) pe_int (fun _ _ => rfl)) pe_int) pe_int) pa_nil)) pe_int) (pg_sub (pv 0) pe_int set_list))
    (pss_one (ps_ret (pe_op op_mod (pe_callTy call_int1 (by rfl) T.int (by decide +kernel) (pa_cons (pe_op op_fdiv (pe_op op_mod (pe_callTy call_int1 (by rfl) T.int (by decide +kernel) (pa_cons (pe_op op_mul (pe_ix ix_list (pv 0) pe_int (fun _ _ => rfl)) (pe_ix ix_list (pv 0) pe_int (fun _ _ => rfl))) pa_nil)) pe_int) pe_int) pa_nil)) (pv 1))))), ?_⟩
  refine ⟨_, rfl, p, _, _, _, rfl, rfl, ix0 hp, rfl, _, _, rfl, rfl, _, rfl, ?_⟩
  refine ite2 (fun c => ?_) (fun c => ?_)
  · refine ⟨_, rfl, p, _, _, _, rfl, rfl, ix0 hp, rfl, .inl ⟨_, rfl, _, rfl, _, _, rfl, rfl, b0, ?_⟩⟩
    refine ⟨_, rfl, p, _, _, _, rfl, rfl, ix0 hp, rfl, _, rfl, _, _, rfl, rfl, ⟨b0, by omega⟩, _, rfl, p, _, _, 0, rfl, rfl, hp, rfl, _, rfl, ?_⟩
    exact q (x % b) (x / b) y (Int.emod_nonneg _ (by omega)) (Int.emod_lt_of_pos _ b0) (Int.ediv_nonneg x0 (by omega)) y0 y1
  · refine ⟨_, rfl, p, _, _, _, rfl, rfl, ix0 hp, rfl, _, _, rfl, rfl, .inr (by decide), _, _, rfl, rfl, .inl ⟨_, rfl, _, _, rfl, rfl, (by show (0 : Int) < 2147483647; decide), _, rfl, p, _, _, 1, rfl, rfl, hp, rfl, ?_⟩⟩
    have hp' : ∀ z : Int, (upd H p (.lst [.int x, .int z])) p = some (.lst [.int x, .int z]) := fun z => upd_same
    have z0 : 0 ≤ (y * 39373 + 7) % 2147483647 := Int.emod_nonneg _ (by decide)
    have z1 : (y * 39373 + 7) % 2147483647 < 2147483647 := Int.emod_lt_of_pos _ (by decide)
    refine ⟨_, rfl, p, _, _, _, rfl, rfl, ix0 (hp' _), rfl, _, rfl, p, _, _, _, rfl, rfl, ix0 (hp' _), rfl, _, _, rfl, rfl, .inl ⟨by omega, by omega⟩, .inl ⟨_, rfl, _, _, rfl, rfl, (by show (0 : Int) < 2147483629; decide), _, _, rfl, rfl, ⟨by decide, by decide⟩, .inl ⟨_, rfl, _, rfl, _, _, rfl, rfl, b0, ?_⟩⟩⟩
    exact q _ x _ (Int.emod_nonneg _ (by omega)) (Int.emod_lt_of_pos _ b0) x0 z0 z1
end
end TS
namespace TS
open PySem L2
abbrev sOne : Stmt := top 104
abbrev sWords : Stmt := top 106
abbrev sLTree : Stmt := top 107
abbrev sLText : Stmt := top 108
section
variable {P : Program} {w : World} {K : PySem.W.Frag} {mg : Str → Option Value} {base : Heap}
/-- the pool is changed alone -/
def PoolOff (p : Addr) (H H' : Hp) : Prop := SameOff [p] H H' ∧ PoolAt H' p
theorem PoolOff.trans {p : Addr} {H H1 H2 : Hp} (a : PoolOff p H H1) (b : PoolOff p H1 H2) : PoolOff p H H2 := ⟨a.1.trans b.1, b.2⟩
theorem PoolAt.lst {H : Hp} {p : Addr} (h : PoolAt H p) : ∃ xs, H p = some (.lst xs) := let ⟨x, y, e, _⟩ := h; ⟨_, e⟩
theorem PoolAt.same {H H' : Hp} {p : Addr} (h : PoolAt H p) (s : Same H H') : PoolAt H' p := let ⟨x, y, e, r⟩ := h; ⟨x, y, s _ _ e, r⟩
theorem PoolAt.some {H : Hp} {p : Addr} (h : PoolAt H p) : H p ≠ none := by
  obtain ⟨x, y, e, _⟩ := h
  rw [e]
  intro z
  cases z
theorem PoolAt.ne {H : Hp} {p D : Addr} (h : PoolAt H p) (hD : H D = none) : D ≠ p := fun e => h.some (by rw [← e]; exact hD)
theorem off_free {Ds : List Addr} {H H' : Hp} (s : SameOff Ds H H') {l : Addr} (h : H' l = none) (n : l ∉ Ds) : H l = none := by
  cases q : H l with
  | none => rfl
  | some o =>
    have := s l o q n
    rw [h] at this
    cases this
theorem PoolOff.free {p : Addr} {H H' : Hp} (s : PoolOff p H H') {l : Addr} (h : H' l = none) : H l = none := off_free s.1 h (by simpa using s.2.ne h)
theorem pool_lists {H : Hp} {p : Addr} (h : PoolAt H p) : Lists [p] H := fun D m => by
  rw [List.mem_singleton.mp m]
  exact h.lst
/-! _law_one -/
def spOne (K : PySem.W.Frag) : Sp := fun vs H Q _ => ∃ (p : Addr) (x : V), vs = [.ref p, x] ∧ PoolAt H p ∧
  ((∃ (l : Addr) (xs : List V), x = .ref l ∧ l ≠ p ∧ SqL K H l xs ∧ 0 < xs.length ∧ xs.length ≤ 1000 ∧ ∀ (H' : Hp) (i : Nat) (v : V), xs[i]? = some v → PoolOff p H H' → Q v H') ∨
   (∃ z : Str, x = .str z ∧ 0 < z.length ∧ z.length ≤ 1000 ∧ ∀ (H' : Hp) (c : Nat), c ∈ z.cps.toList → PoolOff p H H' → Q (.str ⟨#[c]⟩) H'))
theorem scOne : FnScope ["pool", "things"] ["pool", "things"] (defScope sOne) := ⟨rfl, rfl, rfl, by decide +kernel, rfl, by decide +kernel, by decide +kernel⟩
theorem pool_upd {H : Hp} {p : Addr} {x' y' : Int} (h0 : 0 ≤ x') (h1 : 0 ≤ y') (h2 : y' < 2147483647) : PoolOff p H (upd H p (.lst [.int x', .int y'])) :=
  ⟨off_upd (SameOff.refl _ _) (by simp), x', y', upd_same, h0, h1, h2⟩
theorem ok_one {f : Addr} {fd : FuncData} (F : Fun K "_law_one" "_law_one" sOne f fd) (T : BltT mg) (D1 : Has P w K mg base "_law_take" 1 ["pool", "bound"] spTake) : FnOk P w K mg base CX0 2 f fd ["pool", "things"] (spOne K) := by
  obtain ⟨f1, fd1, m1, k1, b1, G1⟩ := D1
  refine F.ok scOne (fun vs H Q E h => ?_) (fun cdv A outer s H vs Q E hr h => ?_)
  · obtain ⟨p, x, rfl, _⟩ := h
    rfl
  obtain ⟨p, x, rfl, hp, q⟩ := h
  refine ⟨_, pss_one (ps_ret (pe_ix ix_seq (pv 1) (pe_call G1 hr rfl m1 k1 b1 .nil pass0 (pa_cons (pv 0) (pa_cons (pe_callB call_len (by rfl) T.len PySem.boot_len (pa_cons (pv 1) pa_nil)) pa_nil))) (fun _ _ => rfl))), ?_⟩
  obtain ⟨a, b, ep, a0, b0, b1'⟩ := id hp
  rcases q with ⟨l, xs, rfl, nl, hl, l0, l1, q⟩ | ⟨z, rfl, l0, l1, q⟩
  · refine ⟨_, rfl, _, rfl, _, rfl, .ref l, xs.length, rfl, .inl ⟨xs, hl, rfl⟩, p, a, b, _, rfl, ep, a0, b0, b1', by omega, by omega, fun r x' y' r0 r1 x0 y0 y1 => ?_⟩
    have hr1 : r.toNat < xs.length := by omega
    refine .inl ⟨l, xs, _, xs[r.toNat], rfl, rfl, ?_, ?_, q _ _ _ (List.getElem?_eq_getElem hr1) (pool_upd x0 y0 y1)⟩
    · have : SameOff [p] H (upd H p (.lst [.int x', .int y'])) := off_upd (SameOff.refl _ _) (by simp)
      rcases hl with (h | ⟨o, h⟩) | h
      · exact .inl (.inl (this _ _ h (by simpa using nl)))
      · exact .inl (.inr ⟨o, this _ _ h (by simpa using nl)⟩)
      · exact .inr h
    · have z : atI xs ((r.toNat : Nat) : Int) = some xs[r.toNat] := atI_nat (List.getElem?_eq_getElem hr1)
      rw [show ((r.toNat : Nat) : Int) = r by omega] at z
      exact z
  · have big : z.length ≤ sizeLine := Nat.le_trans l1 (by decide)
    refine ⟨_, rfl, _, rfl, _, rfl, .str z, z.length, rfl, ⟨big, rfl⟩, p, a, b, _, rfl, ep, a0, b0, b1', by omega, by omega, fun r x' y' r0 r1 x0 y0 y1 => ?_⟩
    have hr1 : r.toNat < z.cps.toList.length := by rw [len_codes]; omega
    refine .inr (.inr ⟨z, _, z.cps.toList[r.toNat], rfl, rfl, big, ?_, q _ _ (List.getElem_mem hr1) (pool_upd x0 y0 y1)⟩)
    have z1 : atI z.cps.toList ((r.toNat : Nat) : Int) = some z.cps.toList[r.toNat] := atI_nat (List.getElem?_eq_getElem hr1)
    rw [show ((r.toNat : Nat) : Int) = r by omega] at z1
    exact z1
end
end TS
namespace TS
open PySem L2
section
variable {P : Program} {w : World} {K : PySem.W.Frag} {mg : Str → Option Value} {base : Heap}
/-- [e for k in range(n)], e a call that changes the pool alone -/
theorem lc_poolR (R : Nat → Hp → V → Prop) {p D : Addr} {lo : Int} {n k : Nat} {te : TE} {σ : St} {H : Hp} {Qd : Hp → Prop} (hp : PoolAt H p) (hD : H D = none) (hn : n ≤ 1000)
    (hw : ∀ v, wipe ((wipe σ [k]).set k v) [k] = wipe σ [k])
    (step : ∀ (i : Nat) (H1 : Hp) (G : VK), i < n → PoolOff p H H1 → Lists [p, D] H1 → (∀ (y : V) H2, PoolOff p H1 H2 → (∀ H3, SameOff [p, D] H2 H3 → R i H3 y) → G y H2) → te ((wipe σ [k]).set k (some (.int (lo + i)))) H1 G)
    (hd : ∀ H1 ys, PoolOff p H H1 → H1 D = some (.lst ys) → ys.length = n → (∀ i y, ys[i]? = some y → R i H1 y) → Qd H1) :
    ∃ W : Nat → Nat → Hp → Prop, (∃ m, W 0 m (upd H D (.lst []))) ∧ ∀ i m H, W i m H →
      ((Itr lo n).stop i H ∧ Qd H) ∨ ((Itr lo n).go i H ∧ ∃ Nx : Hp → Prop, (∀ H', Nx H' → ∃ m', m' < m ∧ W (i + 1) m' H') ∧ ∀ x H', (Itr lo n).yld i H x H' → gName k x (wipe σ [k]) H' fun σ2 H2 => wipe σ2 [k] = wipe σ [k] ∧ tYes σ2 H2 fun b H3 =>
        if b = true then te σ2 H3 fun y H4 => ∃ acc, H4 D = some (.lst acc) ∧ acc.length < sizeLine ∧ Nx (upd H4 D (.lst (acc ++ [y]))) else Nx H3) := by
  have nD : D ≠ p := hp.ne hD
  refine lc_range (lo := lo) (n := n) (fun i H1 => PoolOff p H H1 ∧ ∃ ys, H1 D = some (.lst ys) ∧ ys.length = i ∧ ∀ j y, ys[j]? = some y → ∀ H3, SameOff [p, D] H1 H3 → R j H3 y) ⟨⟨off_new (SameOff.refl _ _) hD, hp.same (same_upd hD _)⟩, [], upd_same, rfl, fun j y h => by simp at h⟩ (fun i H1 hi z => ?_) (fun H1 z => ?_)
  · obtain ⟨s1, ys, d1, l1, e1⟩ := z
    refine ⟨hw _, ?_⟩
    unfold tYes
    dsimp only
    rw [if_pos rfl]
    refine step i H1 _ hi s1 (fun b m => ?_) fun y H2 s2 r2 => ?_
    · simp only [List.mem_cons, List.not_mem_nil, or_false] at m
      rcases m with rfl | rfl
      · exact s1.2.lst
      · exact ⟨ys, d1⟩
    have d2 : H2 D = some (.lst ys) := s2.1 _ _ d1 (by simpa using nD)
    refine ⟨ys, d2, small1000 (by omega), ⟨fun b o q hb => ?_, ?_⟩, ys ++ [y], upd_same, by simp [l1], fun j y' hj H3 s3 => ?_⟩
    · rw [upd_ne (ne_of_none q hD)]
      exact s2.1 _ _ (s1.1 _ _ q hb) hb
    · obtain ⟨a, b, e, r⟩ := s2.2
      exact ⟨a, b, by rw [upd_ne nD.symm]; exact e, r⟩
    · have off2 : SameOff [p, D] H2 H3 := (off_upd (SameOff.refl _ _) (by simp)).trans s3
      by_cases hj' : j < ys.length
      · rw [List.getElem?_append_left hj'] at hj
        exact e1 j y' hj H3 ((show SameOff [p, D] H1 H2 from fun b o q hb => s2.1 b o q (by simp at hb ⊢; exact hb.1)).trans off2)
      · rw [List.getElem?_append_right (by omega)] at hj
        cases hq : j - ys.length with
        | zero =>
          rw [hq] at hj
          simp at hj
          subst hj
          have : j = i := by omega
          subst this
          exact r2 H3 off2
        | succ q =>
          rw [hq] at hj
          simp at hj
  · obtain ⟨s1, ys, d1, l1, e1⟩ := z
    exact hd H1 ys s1 d1 l1 fun i y hi => e1 i y hi H1 (SameOff.refl _ _)
/-- a text of letters -/
def Lets (x : Str) : Prop := ∀ c ∈ x.cps.toList, isLet c = true
theorem lets_app {a b : Str} (ha : Lets a) (hb : Lets b) : Lets (a ++ b) := fun c h => by
  rw [codes_append] at h
  rcases List.mem_append.mp h with h | h
  · exact ha c h
  · exact hb c h
theorem lets_one {c : Nat} (h : isLet c = true) : Lets ⟨#[c]⟩ := fun d hd => by
  have : d = c := by simpa using hd
  rw [this]
  exact h
theorem len_one (c : Nat) : (⟨#[c]⟩ : Str).length = 1 := rfl
theorem len_app (a b : Str) : (a ++ b).length = a.length + b.length := Str.length_append a b
theorem join_lets0 {e : Str} (he : e.cps.toList = []) : ∀ (ys : List Str), (∀ y ∈ ys, Lets y ∧ y.length = 1) → Lets (Str.join e ys) ∧ (Str.join e ys).length = ys.length
  | [], _ => ⟨fun c h => (by cases h), rfl⟩
  | [y], h => h y (by simp)
  | x :: y :: r, h => by
    have ih := join_lets0 he (y :: r) fun z hz => h z (by simp [hz])
    have hx := h x (by simp)
    have le : e.length = 0 := by rw [← len_codes, he]; rfl
    have ee : Lets e := fun c hc => by rw [he] at hc; cases hc
    show Lets (x ++ e ++ Str.join e (y :: r)) ∧ (x ++ e ++ Str.join e (y :: r)).length = _
    refine ⟨lets_app (lets_app hx.1 ee) ih.1, ?_⟩
    rw [len_app, len_app, ih.2, hx.2, le]
    simp only [List.length_cons]
    omega
theorem join_lets {e : Str} (he : e.cps.toList = []) (ys : List Str) (h : ∀ y ∈ ys, Lets y ∧ y.length = 1) : Lets (Txt.join e ys) ∧ (Txt.join e ys).length = ys.length := by
  rw [TL.join_eq]
  exact join_lets0 he ys h
theorem sum_len1 : ∀ (ys : List Str), (∀ y ∈ ys, Lets y ∧ y.length = 1) → (ys.map (·.length)).sum = ys.length
  | [], _ => rfl
  | y :: r, h => by
    have ih := sum_len1 r fun z hz => h z (by simp [hz])
    have hy := (h y (by simp)).2
    simp only [List.map_cons, List.sum_cons, List.length_cons, ih, hy]
    omega
/-- a row of texts, told item by item -/
theorem texts_of {φ : Str → Prop} : ∀ (ys : List V), (∀ y ∈ ys, ∃ x, y = V.str x ∧ φ x) → ∃ xs : List Str, ys = xs.map V.str ∧ ∀ x ∈ xs, φ x
  | [], _ => ⟨[], rfl, fun x h => by cases h⟩
  | y :: r, h => by
    obtain ⟨xs, e, hx⟩ := texts_of r fun z hz => h z (by simp [hz])
    obtain ⟨x, rfl, p⟩ := h y (by simp)
    exact ⟨x :: xs, by rw [e]; rfl, fun z hz => by rcases List.mem_cons.mp hz with rfl | hz; exact p; exact hx z hz⟩
theorem texts_at {φ : Str → Prop} {ys : List V} (h : ∀ (i : Nat) y, ys[i]? = some y → ∃ x, y = V.str x ∧ φ x) : ∃ xs : List Str, ys = xs.map V.str ∧ ∀ x ∈ xs, φ x :=
  texts_of ys fun y hy => by
    obtain ⟨i, hi, e⟩ := List.getElem_of_mem hy
    exact h i y (by rw [← e]; exact List.getElem?_eq_getElem hi)
/-! _law_words -/
structure BltU (mg : Str → Option Value) : Prop where
  range : mg "range" = none
  list : mg "list" = none
  min : mg "min" = none
  enum : mg "enumerate" = none
abbrev nmWords : List Str := ["pool", "bound", "letters", "first", "stride", "head", "turn", "tail", "spot"]
theorem scWords : FnScope nmWords ["pool", "bound"] (defScope sWords) := ⟨rfl, rfl, rfl, by decide +kernel, rfl, by decide +kernel, by decide +kernel⟩
def spWords : Sp := fun vs H Q _ => ∃ (p : Addr) (n : Nat), vs = [.ref p, .int n] ∧ PoolAt H p ∧ n ≤ 26 ∧
  ∀ (H' : Hp) (l : Addr) (ws : List Str), PoolOff p H H' → H l = none → H' l = some (.lst (ws.map V.str)) → ws.length = n → (∀ x ∈ ws, WordOk x ∧ x.length ≤ 5) → Q (.ref l) H'
abbrev abc : Str := "abcdefghijklmnopqrstuvwxyz"
theorem abc_len : abc.length = 26 := by decide +kernel
theorem abc_let {c : Nat} (h : c ∈ abc.cps.toList) : isLet c = true := decide_eq_true h
theorem strides_len : ([.int 1, .int 3, .int 5, .int 7, .int 9, .int 11, .int 15, .int 17, .int 19, .int 21, .int 23, .int 25] : List V).length = 12 := rfl
theorem strides_int : ∀ (i : Nat) (v : V), ([.int 1, .int 3, .int 5, .int 7, .int 9, .int 11, .int 15, .int 17, .int 19, .int 21, .int 23, .int 25] : List V)[i]? = some v → ∃ k : Int, v = .int k ∧ 0 ≤ k ∧ k ≤ 25 := by
  intro i v h
  rcases i with _ | _ | _ | _ | _ | _ | _ | _ | _ | _ | _ | _ | i <;> simp at h <;> (subst h; exact ⟨_, rfl, by decide, by decide⟩)
theorem ok_words {f : Addr} {fd : FuncData} (F : Fun K "_law_words" "_law_words" sWords f fd) (T : BltT mg) (U : BltU mg) (D1 : Has P w K mg base "_law_take" 1 ["pool", "bound"] spTake) (D2 : Has P w K mg base "_law_one" 2 ["pool", "things"] (spOne K)) :
    FnOk P w K mg base CX0 3 f fd ["pool", "bound"] spWords := by
  obtain ⟨f1, fd1, m1, k1, b1, G1⟩ := D1
  obtain ⟨f2, fd2, m2, k2, b2, G2⟩ := D2
  refine F.ok scWords (fun vs H Q E h => ?_) (fun cdv A outer s H vs Q E hr h => ?_)
  · obtain ⟨p, n, rfl, _⟩ := h
    rfl
  obtain ⟨p, n, rfl, hp, hn, q⟩ := h
  have r1 : Room 1 _ := hr.mono (by decide)
  refine ⟨_, pss_cons (ps_set (i := 2) scWords.nd rfl (.inr rfl) pe_str)
    (pss_cons (ps_asg (pe_tup (pa_cons (pe_call G1 r1 rfl m1 k1 b1 .nil pass0 (pa_cons (pv 0) (pa_cons pe_int pa_nil)))
      (pa_cons (pe_call G2 hr rfl m2 k2 b2 .nil pass0 (pa_cons (pv 0) (pa_cons (pe_lst (pa_cons pe_int (pa_cons pe_int (pa_cons pe_int (pa_cons pe_int (pa_cons pe_int (pa_cons pe_int (pa_cons pe_int (pa_cons pe_int (pa_cons pe_int (pa_cons pe_int (pa_cons pe_int (pa_cons pe_int pa_nil))))))))))))) pa_nil))) pa_nil))) (pg_tup (by rfl) (pgs_cons (pg_name (i := 3) scWords.nd rfl (.inr rfl)) (pgs_cons (pg_name (i := 4) scWords.nd rfl (.inr rfl)) pgs_nil))))
    (pss_cons (ps_set (i := 5) scWords.nd rfl (.inr rfl) (pe_join pe_str (pe_lc (own := [("turn", 6)]) (g := gName 6) (tt := tYes) (by rfl) scWords.nd (pi_range1 rfl U.range (pa_cons (pe_call G1 r1 rfl m1 k1 b1 .nil pass0 (pa_cons (pv 0) (pa_cons pe_int pa_nil))) pa_nil)) (blkOk_by (own := [("turn", 6)]) (N := nmWords) (sc := defScope sWords) (by decide +kernel)) (fun _ _ _ _ _ => pg_name (i := 6) scWords.nd rfl (Or.inl rfl)) (fun _ _ _ _ _ => pts_nil)
        (fun _ _ _ _ _ => pe_call G2 hr rfl m2 k2 b2 .nil pass0 (pa_cons (pv 0) (pa_cons (pv 2) pa_nil))))))
    (pss_cons (ps_set (i := 7) scWords.nd rfl (.inr rfl) (pe_join pe_str (pe_lc (own := [("turn", 6)]) (g := gName 6) (tt := tYes) (by rfl) scWords.nd (pi_range1 rfl U.range (pa_cons (pe_call G1 r1 rfl m1 k1 b1 .nil pass0 (pa_cons (pv 0) (pa_cons pe_int pa_nil))) pa_nil)) (blkOk_by (own := [("turn", 6)]) (N := nmWords) (sc := defScope sWords) (by decide +kernel)) (fun _ _ _ _ _ => pg_name (i := 6) scWords.nd rfl (Or.inl rfl)) (fun _ _ _ _ _ => pts_nil)
        (fun _ _ _ _ _ => pe_call G2 hr rfl m2 k2 b2 .nil pass0 (pa_cons (pv 0) (pa_cons (pv 2) pa_nil))))))
    (pss_one (ps_ret (pe_lc (own := [("spot", 8)]) (g := gName 8) (tt := tYes) (by rfl) scWords.nd (pi_range1 rfl U.range (pa_cons (pv 1) pa_nil)) (blkOk_by (own := [("spot", 8)]) (N := nmWords) (sc := defScope sWords) (by decide +kernel)) (fun _ _ _ _ _ => pg_name (i := 8) scWords.nd rfl (Or.inl rfl)) (fun _ _ _ _ _ => pts_nil)
        (fun _ _ _ _ _ => pe_op op_add_str (pe_op op_add_str (pv 5) (pe_ix ix_str (pv 2) (pe_op op_mod (pe_callTy call_int1 (by rfl) T.int (by decide +kernel) (pa_cons (pe_op op_add (pv 3) (pe_op op_mul (pv 4) (pv 8))) pa_nil)) pe_int) (fun _ _ => rfl))) (pv 7)))))))), ?_⟩
  have ab : ∀ {H' : Hp} {R : VK} {v : V}, PoolAt H' p → v = .str abc → (∀ H2 c, c ∈ abc.cps.toList → PoolOff p H' H2 → R (.str ⟨#[c]⟩) H2) → spOne K [.ref p, v] H' R E0 := fun h e g => ⟨p, _, rfl, h, .inr ⟨abc, e, by rw [abc_len]; decide, by rw [abc_len]; decide, g⟩⟩
  obtain ⟨a, b, ep, a0, b0, b1'⟩ := id hp
  -- first, stride
  refine ⟨_, rfl, p, a, b, 26, rfl, ep, a0, b0, b1', by decide, by decide, fun r x' y' r0 r1' x0 y0 y1 => ?_⟩
  have g1 : PoolOff p H (upd H p (.lst [.int x', .int y'])) := pool_upd x0 y0 y1
  generalize upd H p (.lst [.int x', .int y']) = H1 at g1
  refine ⟨_, rfl, by show 12 ≤ sizeLine; decide, fun l hl => ?_⟩
  have nl : l ≠ p := g1.2.ne hl
  have g2 : PoolOff p H1 (upd H1 l (.lst [.int 1, .int 3, .int 5, .int 7, .int 9, .int 11, .int 15, .int 17, .int 19, .int 21, .int 23, .int 25])) := ⟨off_new (SameOff.refl _ _) hl, g1.2.same (same_upd hl _)⟩
  refine ⟨p, .ref l, rfl, g2.2, .inl ⟨l, _, rfl, nl, SqL.of upd_same, by rw [strides_len]; decide, by rw [strides_len]; decide, fun H3 i v hv g3 => ?_⟩⟩
  obtain ⟨st, rfl, st0, st25⟩ := strides_int i v hv
  have g4 := (g1.trans g2).trans g3
  refine ⟨by show 2 ≤ sizeLine; decide, fun t ht => ?_⟩
  have g5 : PoolOff p H (upd H3 t (.tup [.int r, .int st])) := g4.trans ⟨off_new (SameOff.refl _ _) ht, g3.2.same (same_upd ht _)⟩
  refine ⟨t, _, rfl, SqT.of upd_same, rfl, _, _, rfl, _, _, rfl, rfl, ?_⟩
  generalize upd H3 t (.tup [.int r, .int st]) = H4 at g5
  -- head
  obtain ⟨ha, hb, he, ha0, hb0, hb1⟩ := id g5.2
  refine ⟨⟨_, rfl⟩, _, rfl, p, ha, hb, 3, rfl, he, ha0, hb0, hb1, by decide, by decide, fun r1 x1 y1 ra rb xa ya yb => ?_⟩
  have gg1 : PoolOff p H4 (upd H4 p (.lst [.int x1, .int y1])) := pool_upd xa ya yb
  generalize upd H4 p (.lst [.int x1, .int y1]) = H5 at gg1
  refine ⟨r1, rfl, by omega, by omega, fun D hD => lc_poolR (R := fun _ _ y => ∃ x : Str, y = .str x ∧ Lets x ∧ x.length = 1) gg1.2 hD (by omega) (fun _ => rfl) (fun i H1 G hi s1 hL hG => ?_) (fun H6 ys s1 d1 l1 hR => ?_)⟩
  · exact ⟨_, rfl, _, rfl, ab s1.2 rfl fun H2 c hc s2 => hG _ H2 s2 fun H3 s3 => ⟨_, rfl, lets_one (abc_let hc), rfl⟩⟩
  obtain ⟨ss1, rfl, st1⟩ := texts_at hR
  rw [List.length_map] at l1
  have jl1 := join_lets (e := ("" : Str)) (by decide +kernel) ss1 st1
  refine ⟨_, D, ss1, rfl, rfl, .inl (SqL.of d1), ?_, ?_⟩
  · have e1 := sum_len1 ss1 st1
    have e2 : ("" : Str).length = 0 := by decide +kernel
    rw [e1, e2]
    omega
  have jn1 : (Txt.join ("" : Str) ss1).length ≤ 2 := by rw [jl1.2]; omega
  replace jl1 := jl1.1
  generalize Txt.join ("" : Str) ss1 = hd1 at jl1 jn1
  have g6 := g5.trans (gg1.trans s1)
  clear hR st1 d1 l1 s1 gg1
  -- tail
  obtain ⟨ta, tb, te, ta0, tb0, tb1⟩ := id g6.2
  refine ⟨⟨_, rfl⟩, _, rfl, p, ta, tb, 3, rfl, te, ta0, tb0, tb1, by decide, by decide, fun r1 x1 y1 ra rb xa ya yb => ?_⟩
  have gg2 : PoolOff p H6 (upd H6 p (.lst [.int x1, .int y1])) := pool_upd xa ya yb
  generalize upd H6 p (.lst [.int x1, .int y1]) = H7 at gg2
  refine ⟨r1, rfl, by omega, by omega, fun D hD => lc_poolR (R := fun _ _ y => ∃ x : Str, y = .str x ∧ Lets x ∧ x.length = 1) gg2.2 hD (by omega) (fun _ => rfl) (fun i H1 G hi s1 hL hG => ?_) (fun H8 ys s1 d1 l1 hR => ?_)⟩
  · exact ⟨_, rfl, _, rfl, ab s1.2 rfl fun H2 c hc s2 => hG _ H2 s2 fun H3 s3 => ⟨_, rfl, lets_one (abc_let hc), rfl⟩⟩
  obtain ⟨ss2, rfl, st2⟩ := texts_at hR
  rw [List.length_map] at l1
  have jl2 := join_lets (e := ("" : Str)) (by decide +kernel) ss2 st2
  refine ⟨_, D, ss2, rfl, rfl, .inl (SqL.of d1), ?_, ?_⟩
  · have e1 := sum_len1 ss2 st2
    have e2 : ("" : Str).length = 0 := by decide +kernel
    rw [e1, e2]
    omega
  have jn2 : (Txt.join ("" : Str) ss2).length ≤ 2 := by rw [jl2.2]; omega
  replace jl2 := jl2.1
  generalize Txt.join ("" : Str) ss2 = tl1 at jl2 jn2
  have g7 := g6.trans (gg2.trans s1)
  clear hR st2 d1 l1 s1 gg2
  -- the words
  refine ⟨_, rfl, n, rfl, by omega, by omega, fun D hD => lc_poolR (R := fun _ _ y => ∃ x : Str, y = .str x ∧ WordOk x ∧ x.length ≤ 5) g7.2 hD (by omega) (fun _ => rfl) (fun i H1 G hi s1 hL hG => ?_) (fun H9 ys s1 d1 l1 hR => ?_)⟩
  · have m0 : 0 ≤ (r + st * (0 + (i : Int))) % 26 := Int.emod_nonneg _ (by decide)
    have m1 : (r + st * (0 + (i : Int))) % 26 < 26 := Int.emod_lt_of_pos _ (by decide)
    have hm : ((r + st * (0 + (i : Int))) % 26).toNat < abc.cps.toList.length := by
      rw [len_codes, abc_len]
      omega
    have z1 : atI abc.cps.toList ((((r + st * (0 + (i : Int))) % 26).toNat : Nat) : Int) = some abc.cps.toList[((r + st * (0 + (i : Int))) % 26).toNat] := atI_nat (List.getElem?_eq_getElem hm)
    rw [show ((((r + st * (0 + (i : Int))) % 26).toNat : Nat) : Int) = (r + st * (0 + (i : Int))) % 26 by omega] at z1
    have hc : isLet abc.cps.toList[((r + st * (0 + (i : Int))) % 26).toNat] = true := abc_let (List.getElem_mem hm)
    generalize abc.cps.toList[((r + st * (0 + (i : Int))) % 26).toNat] = c at z1 hc
    refine ⟨_, rfl, _, rfl, _, rfl, _, rfl, _, rfl, _, _, rfl, rfl, .inl ⟨by omega, by omega⟩, _, _, rfl, rfl, .inl ⟨_, rfl, _, _, rfl, rfl, by show (0 : Int) < 26; decide, ?_⟩⟩
    refine ⟨abc, _, c, rfl, rfl, by rw [abc_len]; decide, z1, ?_⟩
    refine ⟨_, _, rfl, rfl, ?_, _, rfl, _, _, rfl, rfl, ?_, ?_⟩
    · rw [len_one]
      exact Nat.le_trans (show _ ≤ 3 by omega) (by decide)
    · rw [len_app, len_one]
      exact Nat.le_trans (show _ ≤ 5 by omega) (by decide)
    · refine hG _ H1 ⟨SameOff.refl _ _, s1.2⟩ fun H3 s3 => ⟨_, rfl, ⟨?_, ?_, lets_app (lets_app jl1 (lets_one hc)) jl2⟩, ?_⟩
      · rw [len_app, len_app, len_one]
        omega
      · rw [len_app, len_app, len_one]
        omega
      · rw [len_app, len_app, len_one]
        omega
  obtain ⟨ws, rfl, hw⟩ := texts_at hR
  rw [List.length_map] at l1
  have g8 := g7.trans s1
  exact q H9 D ws g8 (g7.free hD) d1 (by omega) hw
end
end TS
namespace TS
open PySem L2
/-! data in the heap: trees, rows of texts, of numbers -/
def Tr.data : Tr → PyData
  | .num n => .int n
  | .wd x => .str x
  | .ch a b c d => .tuple [a.data, b.data, c.data, d.data]
/-- plain signs alone -/
def Plain (x : Str) : Prop := ∀ c ∈ x.cps.toList, c < 128
theorem Plain.ok {x : Str} (h : Plain x) : PyData.strOk x = true := by
  unfold PyData.strOk
  rw [← Array.all_toList]
  simp only [List.all_eq_true, decide_eq_true_eq]
  intro c hc
  have := h c hc
  omega
theorem plain_word {x : Str} (h : WordOk x) : Plain x := fun c hc => by
  have := isLet_iff.mp (h.2.2 c hc)
  omega
theorem plain_text : ∀ {t : Tr}, t.fine → Plain t.text
  | .num n, h => fun c hc => by
    have e : (Tr.num n).text.cps.toList = [48 + n.toNat] := codes_digit h.1 h.2
    rw [e] at hc
    have := h.2
    simp at hc
    omega
  | .wd x, h => plain_word h
  | .ch a b c d, h => fun k hk => by
    obtain ⟨h1, h2, h3, h4⟩ := h
    rw [codes_ch] at hk
    simp only [List.mem_cons, List.mem_append, List.not_mem_nil, or_false] at hk
    rcases hk with rfl | hk | rfl | hk | rfl | hk | rfl | hk | rfl
    · decide
    · exact plain_text h1 k hk
    · decide
    · exact plain_text h2 k hk
    · decide
    · exact plain_text h3 k hk
    · decide
    · exact plain_text h4 k hk
    · decide
theorem Tr.lay : ∀ {t : Tr}, t.fine → t.data.canLay0 = true
  | .num n, _ => by simp [Tr.data, PyData.canLay0]
  | .wd x, h => by simp [Tr.data, PyData.canLay0, (plain_word h).ok]
  | .ch a b c d, h => by simp [Tr.data, PyData.canLay0, PyData.canLayAll0, Tr.lay h.1, Tr.lay h.2.1, Tr.lay h.2.2.1, Tr.lay h.2.2.2]
theorem Tr.ddepth : ∀ t : Tr, t.data.depth + 1 ≤ t.deep + 1
  | .num n => by simp [Tr.data, PyData.depth, Tr.deep]
  | .wd x => by simp [Tr.data, PyData.depth, Tr.deep]
  | .ch a b c d => by
    have h1 := Tr.ddepth a
    have h2 := Tr.ddepth b
    have h3 := Tr.ddepth c
    have h4 := Tr.ddepth d
    simp only [Tr.data, PyData.depth, PyData.depthAll, Tr.deep]
    omega
theorem shaped_mk {d : PyData} (h : d.canLay0 = true) (g : d.depth ≤ 64) : SeqAt.shaped d = true := by
  show (d.canLay0 && decide (d.depth ≤ 64)) = true
  rw [h, decide_eq_true g]
  rfl
theorem Tr.shaped {t : Tr} (hf : t.fine) (h : t.deep ≤ 60) : SeqAt.shaped t.data = true := shaped_mk (Tr.lay hf) (by have := t.ddepth; omega)
theorem Tr.eqv_iff : ∀ t u : Tr, PyData.eqv t.data u.data = true ↔ t = u
  | .num n, .num m => by simp [Tr.data, PyData.eqv]
  | .wd x, .wd y => by simp [Tr.data, PyData.eqv]
  | .num n, .wd y => by simp [Tr.data, PyData.eqv]
  | .num n, .ch a b c d => by simp [Tr.data, PyData.eqv]
  | .wd x, .num m => by simp [Tr.data, PyData.eqv]
  | .wd x, .ch a b c d => by simp [Tr.data, PyData.eqv]
  | .ch a b c d, .num m => by simp [Tr.data, PyData.eqv]
  | .ch a b c d, .wd y => by simp [Tr.data, PyData.eqv]
  | .ch a b c d, .ch a' b' c' d' => by
    simp only [Tr.data, PyData.eqv, PyData.eqvAll, Bool.and_eq_true, Tr.eqv_iff a a', Tr.eqv_iff b b', Tr.eqv_iff c c', Tr.eqv_iff d d', Tr.ch.injEq, and_true]
theorem Tr.dp {K : PySem.W.Frag} {H : Hp} {v : V} {t : Tr} (h : TrAt H v t) : Dp K H v t.data := by
  induction h with
  | num n => exact .int n
  | wd x => exact .str x
  | ch h _ _ _ _ a b c d => exact .tup (SqT.of h) (.cons a (.cons b (.cons c (.cons d .nil))))
theorem dpStrs {K : PySem.W.Frag} {H : Hp} : ∀ ws : List Str, DpAll K H (ws.map V.str) (ws.map PyData.str)
  | [] => .nil
  | w :: ws => .cons (.str w) (dpStrs ws)
theorem dpInts {K : PySem.W.Frag} {H : Hp} : ∀ ns : List Int, DpAll K H (ns.map V.int) (ns.map PyData.int)
  | [] => .nil
  | n :: ns => .cons (.int n) (dpInts ns)
theorem layStrs : ∀ ws : List Str, (∀ x ∈ ws, Plain x) → PyData.canLayAll0 (ws.map PyData.str) = true
  | [], _ => by simp [PyData.canLayAll0]
  | w :: ws, h => by simp [PyData.canLayAll0, PyData.canLay0, (h w (by simp)).ok, layStrs ws fun x hx => h x (by simp [hx])]
theorem layInts : ∀ ns : List Int, PyData.canLayAll0 (ns.map PyData.int) = true
  | [] => by simp [PyData.canLayAll0]
  | n :: ns => by simp [PyData.canLayAll0, PyData.canLay0, layInts ns]
theorem depStrs : ∀ ws : List Str, PyData.depthAll (ws.map PyData.str) ≤ 1
  | [] => by simp [PyData.depthAll]
  | w :: ws => by
    have := depStrs ws
    simp only [List.map_cons, PyData.depthAll, PyData.depth]
    omega
theorem depInts : ∀ ns : List Int, PyData.depthAll (ns.map PyData.int) ≤ 1
  | [] => by simp [PyData.depthAll]
  | n :: ns => by
    have := depInts ns
    simp only [List.map_cons, PyData.depthAll, PyData.depth]
    omega
mutual
theorem dp_same {K : PySem.W.Frag} {H H' : Hp} (s : Same H H') : ∀ (d : PyData) (v : V), Dp K H v d → Dp K H' v d
  | .none, _, .non => .non
  | .bool _, _, .bl b => .bl b
  | .int _, _, .int i => .int i
  | .str _, _, .str x => .str x
  | .list ds, _, .lst h a => .lst (s.seq h) (dpAll_same s ds _ a)
  | .tuple ds, _, .tup h a => .tup (SqT.ext h s) (dpAll_same s ds _ a)
theorem dpAll_same {K : PySem.W.Frag} {H H' : Hp} (s : Same H H') : ∀ (ds : List PyData) (vs : List V), DpAll K H vs ds → DpAll K H' vs ds
  | [], _, .nil => .nil
  | d :: ds, _, .cons h a => .cons (dp_same s d _ h) (dpAll_same s ds _ a)
end
def strsD (ws : List Str) : PyData := .list (ws.map PyData.str)
def intsD (ns : List Int) : PyData := .list (ns.map PyData.int)
theorem strsD_lay {ws : List Str} (h : ∀ x ∈ ws, Plain x) : (strsD ws).canLay0 = true := by simp [strsD, PyData.canLay0, layStrs ws h]
theorem intsD_lay (ns : List Int) : (intsD ns).canLay0 = true := by simp [intsD, PyData.canLay0, layInts]
theorem strsD_dep (ws : List Str) : (strsD ws).depth ≤ 3 := by
  have := depStrs ws
  simp only [strsD, PyData.depth]
  omega
theorem intsD_dep (ns : List Int) : (intsD ns).depth ≤ 3 := by
  have := depInts ns
  simp only [intsD, PyData.depth]
  omega
end TS
namespace TS
open PySem L2
section
variable {P : Program} {w : World} {K : PySem.W.Frag} {mg : Str → Option Value} {base : Heap}
/-- a block whose rest is read once, for all heaps of a kind -/
theorem pss_split {X : Cx} {st : Stmt} {sts : List Stmt} {D : Ends} {σ : St} {H : Hp} (φ : Hp → Prop) (h1 : ∃ tR, PSs X sts tR ∧ ∀ H1, φ H1 → tR D σ H1)
    (h2 : ∀ tR, PSs X sts tR → (∀ H1, φ H1 → tR D σ H1) → ∃ t, PSs X (st :: sts) t ∧ t D σ H) : ∃ t, PSs X (st :: sts) t ∧ t D σ H := by
  obtain ⟨tR, a, b⟩ := h1
  exact h2 tR a b
/-- the same, for all slots and heaps of a kind -/
theorem pss_split2 {X : Cx} {st : Stmt} {sts : List Stmt} {D : Ends} {σ : St} {H : Hp} (φ : St → Hp → Prop) (h1 : ∃ tR, PSs X sts tR ∧ ∀ σ1 H1, φ σ1 H1 → tR D σ1 H1)
    (h2 : ∀ tR, PSs X sts tR → (∀ σ1 H1, φ σ1 H1 → tR D σ1 H1) → ∃ t, PSs X (st :: sts) t ∧ t D σ H) : ∃ t, PSs X (st :: sts) t ∧ t D σ H := by
  obtain ⟨tR, a, b⟩ := h1
  exact h2 tR a b
/-! _law_tree -/
abbrev nmLTree : List Str := ["pool", "words", "digits", "deep", "part"]
theorem scLTree : FnScope nmLTree ["pool", "words", "digits", "deep"] (defScope sLTree) := ⟨rfl, rfl, rfl, by decide +kernel, rfl, by decide +kernel, by decide +kernel⟩
/-- the words and digits of which trees are made -/
structure Stock (H : Hp) (p lw lg : Addr) (ws : List Str) (ns : List Int) : Prop where
  hw : H lw = some (.lst (ws.map V.str))
  hg : H lg = some (.lst (ns.map V.int))
  nw : lw ≠ p
  ng : lg ≠ p
  w0 : 0 < ws.length
  w1 : ws.length ≤ 1000
  g0 : 0 < ns.length
  g1 : ns.length ≤ 1000
  ok : ∀ x ∈ ws, WordOk x
  dg : ∀ n ∈ ns, 0 ≤ n ∧ n ≤ 9
theorem Stock.off {H H' : Hp} {p lw lg : Addr} {ws : List Str} {ns : List Int} (h : Stock H p lw lg ws ns) (s : SameOff [p] H H') : Stock H' p lw lg ws ns :=
  ⟨s _ _ h.hw (by simpa using h.nw), s _ _ h.hg (by simpa using h.ng), h.nw, h.ng, h.w0, h.w1, h.g0, h.g1, h.ok, h.dg⟩
def spLTree (d : Nat) : Sp := fun vs H Q _ => ∃ (p lw lg : Addr) (ws : List Str) (ns : List Int) (deep : Nat), vs = [.ref p, .ref lw, .ref lg, .int deep] ∧ PoolAt H p ∧ Stock H p lw lg ws ns ∧ 1 ≤ deep ∧ deep ≤ d ∧
  ∀ (H' : Hp) (v : V) (t : Tr), PoolOff p H H' → TrAt H' v t → t.fine → t.deep ≤ deep → Q v H'
theorem none_ltree {f : Addr} {fd : FuncData} {k : Nat} : FnOk P w K mg base CX0 k f fd ["pool", "words", "digits", "deep"] (spLTree 0) := by
  have no : ∀ vs H Q E, ¬ spLTree 0 vs H Q E := fun vs H Q E h => by
    obtain ⟨p, lw, lg, ws, ns, deep, _, _, _, h1, h0, _⟩ := h
    omega
  exact ⟨fun vs H Q E h => absurd h (no vs H Q E), fun A outer s H args us vs Q E _ _ _ _ h => absurd h (no vs H Q E)⟩
theorem ok_ltree {n d : Nat} {f : Addr} {fd : FuncData} (F : Fun K "_law_tree" "_law_tree" sLTree f fd) (T : BltT mg) (U : BltU mg) (b : Binds K fd ["pool", "words", "digits", "deep"] []) (m : mg "_law_tree" = some (.ref f))
    (D1 : Has P w K mg base "_law_take" 1 ["pool", "bound"] spTake) (D2 : Has P w K mg base "_law_one" 2 ["pool", "things"] (spOne K)) (G : FnOk P w K mg base CX0 (n + 2) f fd ["pool", "words", "digits", "deep"] (spLTree d)) :
    FnOk P w K mg base CX0 (n + 3) f fd ["pool", "words", "digits", "deep"] (spLTree (d + 1)) := by
  obtain ⟨f1, fd1, m1, k1, b1, G1⟩ := D1
  obtain ⟨f2, fd2, m2, k2, b2, G2⟩ := D2
  refine F.ok scLTree (fun vs H Q E h => ?_) (fun cdv A outer s H vs Q E hr h => ?_)
  · obtain ⟨p, lw, lg, ws, ns, deep, rfl, _⟩ := h
    rfl
  obtain ⟨p, lw, lg, ws, ns, deep, rfl, hp, st, h1, hd, q⟩ := h
  have r1 : Room 1 _ := hr.mono (by omega)
  have r2 : Room 2 _ := hr.mono (by omega)
  have rest : ∀ H1, PoolOff p H H1 → spOne K [.ref p, .ref lw] H1 Q E0 := fun H1 s1 => by
    have st1 := st.off s1.1
    refine ⟨p, .ref lw, rfl, s1.2, .inl ⟨lw, _, rfl, st.nw, SqL.of st1.hw, by rw [List.length_map]; exact st.w0, by rw [List.length_map]; exact st.w1, fun H2 i v hv s2 => ?_⟩⟩
    rw [List.getElem?_map] at hv
    cases e : ws[i]? with
    | none =>
      rw [e] at hv
      cases hv
    | some x =>
      rw [e] at hv
      cases hv
      exact q H2 _ (.wd x) (s1.trans s2) (.wd x) (st.ok x (List.mem_of_getElem? e)) h1
  have digs : ∀ H1, PoolOff p H H1 → spOne K [.ref p, .ref lg] H1 Q E0 := fun H1 s1 => by
    have st1 := st.off s1.1
    refine ⟨p, .ref lg, rfl, s1.2, .inl ⟨lg, _, rfl, st.ng, SqL.of st1.hg, by rw [List.length_map]; exact st.g0, by rw [List.length_map]; exact st.g1, fun H2 i v hv s2 => ?_⟩⟩
    rw [List.getElem?_map] at hv
    cases e : ns[i]? with
    | none =>
      rw [e] at hv
      cases hv
    | some x =>
      rw [e] at hv
      cases hv
      exact q H2 _ (.num x) (s1.trans s2) (.num x) (st.dg x (List.mem_of_getElem? e)) h1
  refine pss_split (PoolOff p H) ?second fun tR hR rR => ?first
  case first =>
    refine ⟨_, pss_cons (ps_if (PW.pt (pw_and (pt_cmpR op_gt (pv 3) pe_int (nomark _)) (pw_and1 (pt_cmpR op_eq (pe_call G1 r1 rfl m1 k1 b1 .nil pass0 (pa_cons (pv 0) (pa_cons pe_int pa_nil))) pe_int (nomark _)))))
      (pss_one (ps_ret (pe_callTy call_tuple_of (by rfl) T.tup (by decide +kernel) (pa_cons
        (pe_lc (own := [("part", 4)]) (g := gName 4) (tt := tYes) (by rfl) scLTree.nd (pi_range1 rfl U.range (pa_cons pe_int pa_nil)) (blkOk_by (own := [("part", 4)]) (N := nmLTree) (sc := defScope sLTree) (by decide +kernel)) (fun _ _ _ _ _ => pg_name (i := 4) scLTree.nd rfl (Or.inl rfl)) (fun _ _ _ _ _ => pts_nil)
          (fun _ _ _ _ _ => pe_call G hr rfl m F.kp b .nil pass0 (pa_cons (pv 0) (pa_cons (pv 1) (pa_cons (pv 2) (pa_cons (pe_op op_sub (pv 3) pe_int) pa_nil)))))) pa_nil)))) pss_nil) hR, ?_⟩
    refine ⟨_, rfl, _, _, rfl, rfl, _, rfl, ?_⟩
    refine ite2 (fun c => ?_) (fun c => ?_)
    · have c := of_decide_eq_true c
      obtain ⟨x, y, ep, x0, y0, y1⟩ := id hp
      refine ⟨_, rfl, p, x, y, 3, rfl, ep, x0, y0, y1, by decide, by decide, fun r x' y' _ _ a1 a2 a3 => ?_⟩
      have s1 : PoolOff p H (upd H p (.lst [.int x', .int y'])) := pool_upd a1 a2 a3
      generalize upd H p (.lst [.int x', .int y']) = H1 at s1
      refine ⟨rfl, _, rfl, ?_⟩
      refine ite2 (fun c1 => ?_) (fun c1 => ?_)
      · refine ⟨4, rfl, by decide, by decide, fun D hD => lc_poolR (R := fun _ G y => ∃ t : Tr, TrAt G y t ∧ t.fine ∧ t.deep + 1 ≤ deep) s1.2 hD (by decide) (fun _ => rfl) (fun i H2 R hi s2 hL hG => ?_) (fun H2 ys s2 d2 l2 hR => ?_)⟩
        · refine ⟨_, rfl, _, rfl, _, rfl, _, rfl, _, _, rfl, rfl, p, lw, lg, ws, ns, deep - 1, ?_, s2.2, st.off (s1.trans s2).1, by omega, by omega, fun H3 v t s3 ht hf hdd => ?_⟩
          · have e : ((deep : Int) - 1) = ((deep - 1 : Nat) : Int) := by omega
            show [V.ref p, V.ref lw, V.ref lg, V.int ((deep : Int) - 1)] = _
            rw [e]
          · have L3 : Lists [p, D] H3 := fun B mB => by
              simp only [List.mem_cons, List.not_mem_nil, or_false] at mB
              rcases mB with rfl | rfl
              · exact s3.2.lst
              · obtain ⟨zs, hz⟩ := hL B (by simp)
                exact ⟨zs, s3.1 _ _ hz (by simpa using s1.2.ne hD)⟩
            exact hG v H3 s3 fun H4 s4 => ⟨t, ht.off s4 L3, hf, by omega⟩
        · match ys, l2 with
          | [y0, y1, y2, y3], _ =>
            obtain ⟨t0, a0, f0, e0⟩ := hR 0 y0 rfl
            obtain ⟨t1, a1, f1, e1⟩ := hR 1 y1 rfl
            obtain ⟨t2, a2, f2, e2⟩ := hR 2 y2 rfl
            obtain ⟨t3, a3, f3, e3⟩ := hR 3 y3 rfl
            refine ⟨D, _, rfl, .inl ⟨SqL.of d2, fun l hl => ?_⟩⟩
            have g : Same H2 (upd H2 l (.tup [y0, y1, y2, y3])) := same_upd hl _
            refine q _ _ (.ch t0 t1 t2 t3) ((s1.trans s2).trans ⟨Same.off g, s2.2.same g⟩) (.ch upd_same (a0.same g) (a1.same g) (a2.same g) (a3.same g)) ⟨f0, f1, f2, f3⟩ ?_
            simp only [Tr.deep]
            omega
      · exact rR H1 s1
    · exact rR H ⟨SameOff.refl _ _, hp⟩
  case second =>
    refine ⟨_, pss_cons (ps_if (PW.pt (pw_and (pt_cmpR (op_neD hr.units) (pv 2) (pe_lst pa_nil) (nomark _)) (pw_and1 (pt_cmpR op_eq (pe_call G1 r1 rfl m1 k1 b1 .nil pass0 (pa_cons (pv 0) (pa_cons pe_int pa_nil))) pe_int (nomark _)))))
      (pss_one (ps_ret (pe_call G2 r2 rfl m2 k2 b2 .nil pass0 (pa_cons (pv 0) (pa_cons (pv 2) pa_nil))))) pss_nil)
    (pss_one (ps_ret (pe_call G2 r2 rfl m2 k2 b2 .nil pass0 (pa_cons (pv 0) (pa_cons (pv 1) pa_nil))))), fun H1 s1 => ?_⟩
    have st1 := st.off s1.1
    refine ⟨_, rfl, by show 0 ≤ sizeLine; decide, fun l hl => ?_⟩
    have g : Same H1 (upd H1 l (.lst [])) := same_upd hl _
    have s2 : PoolOff p H (upd H1 l (.lst [])) := s1.trans ⟨Same.off g, s1.2.same g⟩
    refine ⟨intsD ns, .list [], .lst (SqL.of (g _ _ st1.hg)) (dpInts ns), .lst (SqL.of upd_same) .nil, shaped_mk (intsD_lay ns) (Nat.le_trans (intsD_dep ns) (by decide)), by decide +kernel, _, rfl, ?_⟩
    have e : PyData.eqv (intsD ns) (.list []) = false := by
      have := st.g0
      cases ns with
      | nil => simp at this
      | cons n ns => simp [intsD, PyData.eqv, PyData.eqvAll]
    rw [e]
    generalize upd H1 l (.lst []) = H2 at s2
    obtain ⟨x, y, ep, x0, y0, y1⟩ := id s2.2
    refine iteT ⟨_, rfl, p, x, y, 3, rfl, ep, x0, y0, y1, by decide, by decide, fun r x' y' _ _ a1 a2 a3 => ?_⟩
    have s3 : PoolOff p H2 (upd H2 p (.lst [.int x', .int y'])) := pool_upd a1 a2 a3
    generalize upd H2 p (.lst [.int x', .int y']) = H3 at s3
    refine ⟨rfl, _, rfl, ?_⟩
    refine ite2 (fun c1 => ?_) (fun c1 => ?_)
    · exact ⟨_, rfl, _, rfl, digs H3 (s2.trans s3)⟩
    · exact ⟨_, rfl, _, rfl, rest H3 (s2.trans s3)⟩
end
end TS
namespace TS
open PySem L2
section
variable {P : Program} {w : World} {K : PySem.W.Frag} {mg : Str → Option Value} {base : Heap}
/-! _law_tree, whose words and digits are of those given; there may be no digits -/
structure StockP (H : Hp) (p lw lg : Addr) (ws : List Str) (ns : List Int) : Prop where
  hw : H lw = some (.lst (ws.map V.str))
  hg : H lg = some (.lst (ns.map V.int))
  nw : lw ≠ p
  ng : lg ≠ p
  w0 : 0 < ws.length
  w1 : ws.length ≤ 1000
  g1 : ns.length ≤ 1000
  ok : ∀ x ∈ ws, WordOk x
  dg : ∀ n ∈ ns, 0 ≤ n ∧ n ≤ 9
theorem StockP.off {H H' : Hp} {p lw lg : Addr} {ws : List Str} {ns : List Int} (h : StockP H p lw lg ws ns) (s : SameOff [p] H H') : StockP H' p lw lg ws ns :=
  ⟨s _ _ h.hw (by simpa using h.nw), s _ _ h.hg (by simpa using h.ng), h.nw, h.ng, h.w0, h.w1, h.g1, h.ok, h.dg⟩
def spLTreeP (d : Nat) : Sp := fun vs H Q _ => ∃ (p lw lg : Addr) (ws : List Str) (ns : List Int) (deep : Nat), vs = [.ref p, .ref lw, .ref lg, .int deep] ∧ PoolAt H p ∧ StockP H p lw lg ws ns ∧ 1 ≤ deep ∧ deep ≤ d ∧
  ∀ (H' : Hp) (v : V) (t : Tr), PoolOff p H H' → TrAt H' v t → t.fine → t.deep ≤ deep → (∀ x ∈ t.words, x ∈ ws) → (∀ n ∈ t.nums, n ∈ ns) → Q v H'
theorem none_ltreeP {f : Addr} {fd : FuncData} {k : Nat} : FnOk P w K mg base CX0 k f fd ["pool", "words", "digits", "deep"] (spLTreeP 0) := by
  have no : ∀ vs H Q E, ¬ spLTreeP 0 vs H Q E := fun vs H Q E h => by
    obtain ⟨p, lw, lg, ws, ns, deep, _, _, _, h1, h0, _⟩ := h
    omega
  exact ⟨fun vs H Q E h => absurd h (no vs H Q E), fun A outer s H args us vs Q E _ _ _ _ h => absurd h (no vs H Q E)⟩
theorem ok_ltreeP {n d : Nat} {f : Addr} {fd : FuncData} (F : Fun K "_law_tree" "_law_tree" sLTree f fd) (T : BltT mg) (U : BltU mg) (b : Binds K fd ["pool", "words", "digits", "deep"] []) (m : mg "_law_tree" = some (.ref f))
    (D1 : Has P w K mg base "_law_take" 1 ["pool", "bound"] spTake) (D2 : Has P w K mg base "_law_one" 2 ["pool", "things"] (spOne K)) (G : FnOk P w K mg base CX0 (n + 2) f fd ["pool", "words", "digits", "deep"] (spLTreeP d)) :
    FnOk P w K mg base CX0 (n + 3) f fd ["pool", "words", "digits", "deep"] (spLTreeP (d + 1)) := by
  obtain ⟨f1, fd1, m1, k1, b1, G1⟩ := D1
  obtain ⟨f2, fd2, m2, k2, b2, G2⟩ := D2
  refine F.ok scLTree (fun vs H Q E h => ?_) (fun cdv A outer s H vs Q E hr h => ?_)
  · obtain ⟨p, lw, lg, ws, ns, deep, rfl, _⟩ := h
    rfl
  obtain ⟨p, lw, lg, ws, ns, deep, rfl, hp, st, h1, hd, q⟩ := h
  have r1 : Room 1 _ := hr.mono (by omega)
  have r2 : Room 2 _ := hr.mono (by omega)
  have rest : ∀ H1, PoolOff p H H1 → spOne K [.ref p, .ref lw] H1 Q E0 := fun H1 s1 => by
    have st1 := st.off s1.1
    refine ⟨p, .ref lw, rfl, s1.2, .inl ⟨lw, _, rfl, st.nw, SqL.of st1.hw, by rw [List.length_map]; exact st.w0, by rw [List.length_map]; exact st.w1, fun H2 i v hv s2 => ?_⟩⟩
    rw [List.getElem?_map] at hv
    cases e : ws[i]? with
    | none =>
      rw [e] at hv
      cases hv
    | some x =>
      rw [e] at hv
      cases hv
      exact q H2 _ (.wd x) (s1.trans s2) (.wd x) (st.ok x (List.mem_of_getElem? e)) h1 (fun z hz => by
        simp [Tr.words] at hz
        subst hz
        exact List.mem_of_getElem? e) fun z hz => by simp [Tr.nums] at hz
  have digs : 0 < ns.length → ∀ H1, PoolOff p H H1 → spOne K [.ref p, .ref lg] H1 Q E0 := fun n0 H1 s1 => by
    have st1 := st.off s1.1
    refine ⟨p, .ref lg, rfl, s1.2, .inl ⟨lg, _, rfl, st.ng, SqL.of st1.hg, by rw [List.length_map]; exact n0, by rw [List.length_map]; exact st.g1, fun H2 i v hv s2 => ?_⟩⟩
    rw [List.getElem?_map] at hv
    cases e : ns[i]? with
    | none =>
      rw [e] at hv
      cases hv
    | some x =>
      rw [e] at hv
      cases hv
      exact q H2 _ (.num x) (s1.trans s2) (.num x) (st.dg x (List.mem_of_getElem? e)) h1 (fun z hz => by simp [Tr.words] at hz) fun z hz => by
        simp [Tr.nums] at hz
        subst hz
        exact List.mem_of_getElem? e
  refine pss_split (PoolOff p H) ?second fun tR hR rR => ?first
  case first =>
    refine ⟨_, pss_cons (ps_if (PW.pt (pw_and (pt_cmpR op_gt (pv 3) pe_int (nomark _)) (pw_and1 (pt_cmpR op_eq (pe_call G1 r1 rfl m1 k1 b1 .nil pass0 (pa_cons (pv 0) (pa_cons pe_int pa_nil))) pe_int (nomark _)))))
      (pss_one (ps_ret (pe_callTy call_tuple_of (by rfl) T.tup (by decide +kernel) (pa_cons
        (pe_lc (own := [("part", 4)]) (g := gName 4) (tt := tYes) (by rfl) scLTree.nd (pi_range1 rfl U.range (pa_cons pe_int pa_nil)) (blkOk_by (own := [("part", 4)]) (N := nmLTree) (sc := defScope sLTree) (by decide +kernel)) (fun _ _ _ _ _ => pg_name (i := 4) scLTree.nd rfl (Or.inl rfl)) (fun _ _ _ _ _ => pts_nil)
          (fun _ _ _ _ _ => pe_call G hr rfl m F.kp b .nil pass0 (pa_cons (pv 0) (pa_cons (pv 1) (pa_cons (pv 2) (pa_cons (pe_op op_sub (pv 3) pe_int) pa_nil)))))) pa_nil)))) pss_nil) hR, ?_⟩
    refine ⟨_, rfl, _, _, rfl, rfl, _, rfl, ?_⟩
    refine ite2 (fun c => ?_) (fun c => ?_)
    · have c := of_decide_eq_true c
      obtain ⟨x, y, ep, x0, y0, y1⟩ := id hp
      refine ⟨_, rfl, p, x, y, 3, rfl, ep, x0, y0, y1, by decide, by decide, fun r x' y' _ _ a1 a2 a3 => ?_⟩
      have s1 : PoolOff p H (upd H p (.lst [.int x', .int y'])) := pool_upd a1 a2 a3
      generalize upd H p (.lst [.int x', .int y']) = H1 at s1
      refine ⟨rfl, _, rfl, ?_⟩
      refine ite2 (fun c1 => ?_) (fun c1 => ?_)
      · refine ⟨4, rfl, by decide, by decide, fun D hD => lc_poolR (R := fun _ G y => ∃ t : Tr, TrAt G y t ∧ t.fine ∧ t.deep + 1 ≤ deep ∧ (∀ x ∈ t.words, x ∈ ws) ∧ ∀ n ∈ t.nums, n ∈ ns) s1.2 hD (by decide) (fun _ => rfl) (fun i H2 R hi s2 hL hG => ?_) (fun H2 ys s2 d2 l2 hR => ?_)⟩
        · refine ⟨_, rfl, _, rfl, _, rfl, _, rfl, _, _, rfl, rfl, p, lw, lg, ws, ns, deep - 1, ?_, s2.2, st.off (s1.trans s2).1, by omega, by omega, fun H3 v t s3 ht hf hdd hww hnn => ?_⟩
          · have e : ((deep : Int) - 1) = ((deep - 1 : Nat) : Int) := by omega
            show [V.ref p, V.ref lw, V.ref lg, V.int ((deep : Int) - 1)] = _
            rw [e]
          · have L3 : Lists [p, D] H3 := fun B mB => by
              simp only [List.mem_cons, List.not_mem_nil, or_false] at mB
              rcases mB with rfl | rfl
              · exact s3.2.lst
              · obtain ⟨zs, hz⟩ := hL B (by simp)
                exact ⟨zs, s3.1 _ _ hz (by simpa using s1.2.ne hD)⟩
            exact hG v H3 s3 fun H4 s4 => ⟨t, ht.off s4 L3, hf, by omega, hww, hnn⟩
        · match ys, l2 with
          | [y0, y1, y2, y3], _ =>
            obtain ⟨t0, a0, f0, e0, w0, n0⟩ := hR 0 y0 rfl
            obtain ⟨t1, a1, f1, e1, w1, n1⟩ := hR 1 y1 rfl
            obtain ⟨t2, a2, f2, e2, w2, n2⟩ := hR 2 y2 rfl
            obtain ⟨t3, a3, f3, e3, w3, n3⟩ := hR 3 y3 rfl
            refine ⟨D, _, rfl, .inl ⟨SqL.of d2, fun l hl => ?_⟩⟩
            have g : Same H2 (upd H2 l (.tup [y0, y1, y2, y3])) := same_upd hl _
            refine q _ _ (.ch t0 t1 t2 t3) ((s1.trans s2).trans ⟨Same.off g, s2.2.same g⟩) (.ch upd_same (a0.same g) (a1.same g) (a2.same g) (a3.same g)) ⟨f0, f1, f2, f3⟩ ?_ ?_ ?_
            · simp only [Tr.deep]
              omega
            · intro x hx
              simp only [Tr.words, List.mem_append, List.not_mem_nil, or_false] at hx
              rcases hx with hx | hx | hx | hx
              · exact w0 x hx
              · exact w1 x hx
              · exact w2 x hx
              · exact w3 x hx
            · intro x hx
              simp only [Tr.nums, List.mem_append, List.not_mem_nil, or_false] at hx
              rcases hx with hx | hx | hx | hx
              · exact n0 x hx
              · exact n1 x hx
              · exact n2 x hx
              · exact n3 x hx
      · exact rR H1 s1
    · exact rR H ⟨SameOff.refl _ _, hp⟩
  case second =>
    refine ⟨_, pss_cons (ps_if (PW.pt (pw_and (pt_cmpR (op_neD hr.units) (pv 2) (pe_lst pa_nil) (nomark _)) (pw_and1 (pt_cmpR op_eq (pe_call G1 r1 rfl m1 k1 b1 .nil pass0 (pa_cons (pv 0) (pa_cons pe_int pa_nil))) pe_int (nomark _)))))
      (pss_one (ps_ret (pe_call G2 r2 rfl m2 k2 b2 .nil pass0 (pa_cons (pv 0) (pa_cons (pv 2) pa_nil))))) pss_nil)
    (pss_one (ps_ret (pe_call G2 r2 rfl m2 k2 b2 .nil pass0 (pa_cons (pv 0) (pa_cons (pv 1) pa_nil))))), fun H1 s1 => ?_⟩
    have st1 := st.off s1.1
    refine ⟨_, rfl, by show 0 ≤ sizeLine; decide, fun l hl => ?_⟩
    have g : Same H1 (upd H1 l (.lst [])) := same_upd hl _
    have s2 : PoolOff p H (upd H1 l (.lst [])) := s1.trans ⟨Same.off g, s1.2.same g⟩
    refine ⟨intsD ns, .list [], .lst (SqL.of (g _ _ st1.hg)) (dpInts ns), .lst (SqL.of upd_same) .nil, shaped_mk (intsD_lay ns) (Nat.le_trans (intsD_dep ns) (by decide)), by decide +kernel, _, rfl, ?_⟩
    by_cases n0 : 0 < ns.length
    · have e : PyData.eqv (intsD ns) (.list []) = false := by
        cases ns with
        | nil => simp at n0
        | cons n ns => simp [intsD, PyData.eqv, PyData.eqvAll]
      rw [e]
      generalize upd H1 l (.lst []) = H2 at s2
      obtain ⟨x, y, ep, x0, y0, y1⟩ := id s2.2
      refine iteT ⟨_, rfl, p, x, y, 3, rfl, ep, x0, y0, y1, by decide, by decide, fun r x' y' _ _ a1 a2 a3 => ?_⟩
      have s3 : PoolOff p H2 (upd H2 p (.lst [.int x', .int y'])) := pool_upd a1 a2 a3
      generalize upd H2 p (.lst [.int x', .int y']) = H3 at s3
      refine ⟨rfl, _, rfl, ?_⟩
      refine ite2 (fun c1 => ?_) (fun c1 => ?_)
      · exact ⟨_, rfl, _, rfl, digs n0 H3 (s2.trans s3)⟩
      · exact ⟨_, rfl, _, rfl, rest H3 (s2.trans s3)⟩
    · have e : PyData.eqv (intsD ns) (.list []) = true := by
        cases ns with
        | nil => simp [intsD, PyData.eqv, PyData.eqvAll]
        | cons n ns => simp at n0
      rw [e]
      generalize upd H1 l (.lst []) = H2 at s2
      exact iteF ⟨_, rfl, _, rfl, rest H2 s2⟩
end
end TS
namespace TS
open PySem L2
section
variable {P : Program} {w : World} {K : PySem.W.Frag} {mg : Str → Option Value} {base : Heap}
/-! _law_words: the words are unlike -/
theorem nodup_at {α : Type} {l : List α} (h : ∀ (i j : Nat) x, l[i]? = some x → l[j]? = some x → i = j) : l.Nodup := by
  show l.Pairwise (· ≠ ·)
  rw [List.pairwise_iff_getElem]
  intro i j hi hj hij e
  have := h i j l[i] (List.getElem?_eq_getElem hi) (by rw [e]; exact List.getElem?_eq_getElem hj)
  omega
theorem mid_inj {a b : Str} {c d : Nat} (h : a ++ ⟨#[97 + c]⟩ ++ b = a ++ ⟨#[97 + d]⟩ ++ b) : c = d := by
  have := congrArg (fun z : Str => z.cps.toList) h
  simp only [codes_append] at this
  have h1 := List.append_cancel_right this
  have h2 := List.append_cancel_left h1
  simp at h2
  exact h2
theorem abc_at {k : Nat} (h : k < 26) (hk : k < abc.cps.toList.length) : abc.cps.toList[k] = 97 + k := by
  have e : abc.cps.toList = (List.range 26).map (97 + ·) := by decide +kernel
  simp only [e, List.getElem_map, List.getElem_range]
theorem stridesN : ∀ (i : Nat) (v : V), ([.int 1, .int 3, .int 5, .int 7, .int 9, .int 11, .int 15, .int 17, .int 19, .int 21, .int 23, .int 25] : List V)[i]? = some v →
    ∃ k : Int, v = .int k ∧ 0 ≤ k ∧ k ≤ 25 ∧ ∀ r a b : Int, 0 ≤ a → a < 26 → 0 ≤ b → b < 26 → (r + k * (0 + a)) % 26 = (r + k * (0 + b)) % 26 → a = b := by
  intro i v h
  rcases i with _ | _ | _ | _ | _ | _ | _ | _ | _ | _ | _ | _ | i <;> simp at h <;> (subst h; exact ⟨_, rfl, by decide, by decide, by omega⟩)
def spWordsN : Sp := fun vs H Q _ => ∃ (p : Addr) (n : Nat), vs = [.ref p, .int n] ∧ PoolAt H p ∧ n ≤ 26 ∧
  ∀ (H' : Hp) (l : Addr) (ws : List Str), PoolOff p H H' → H l = none → H' l = some (.lst (ws.map V.str)) → ws.length = n → (∀ x ∈ ws, WordOk x ∧ x.length ≤ 5) → ws.Nodup → Q (.ref l) H'
theorem ok_wordsN {f : Addr} {fd : FuncData} (F : Fun K "_law_words" "_law_words" sWords f fd) (T : BltT mg) (U : BltU mg) (D1 : Has P w K mg base "_law_take" 1 ["pool", "bound"] spTake) (D2 : Has P w K mg base "_law_one" 2 ["pool", "things"] (spOne K)) :
    FnOk P w K mg base CX0 3 f fd ["pool", "bound"] spWordsN := by
  obtain ⟨f1, fd1, m1, k1, b1, G1⟩ := D1
  obtain ⟨f2, fd2, m2, k2, b2, G2⟩ := D2
  refine F.ok scWords (fun vs H Q E h => ?_) (fun cdv A outer s H vs Q E hr h => ?_)
  · obtain ⟨p, n, rfl, _⟩ := h
    rfl
  obtain ⟨p, n, rfl, hp, hn, q⟩ := h
  have r1 : Room 1 _ := hr.mono (by decide)
  refine ⟨_, pss_cons (ps_set (i := 2) scWords.nd rfl (.inr rfl) pe_str)
    (pss_cons (ps_asg (pe_tup (pa_cons (pe_call G1 r1 rfl m1 k1 b1 .nil pass0 (pa_cons (pv 0) (pa_cons pe_int pa_nil)))
      (pa_cons (pe_call G2 hr rfl m2 k2 b2 .nil pass0 (pa_cons (pv 0) (pa_cons (pe_lst (pa_cons pe_int (pa_cons pe_int (pa_cons pe_int (pa_cons pe_int (pa_cons pe_int (pa_cons pe_int (pa_cons pe_int (pa_cons pe_int (pa_cons pe_int (pa_cons pe_int (pa_cons pe_int (pa_cons pe_int pa_nil))))))))))))) pa_nil))) pa_nil))) (pg_tup (by rfl) (pgs_cons (pg_name (i := 3) scWords.nd rfl (.inr rfl)) (pgs_cons (pg_name (i := 4) scWords.nd rfl (.inr rfl)) pgs_nil))))
    (pss_cons (ps_set (i := 5) scWords.nd rfl (.inr rfl) (pe_join pe_str (pe_lc (own := [("turn", 6)]) (g := gName 6) (tt := tYes) (by rfl) scWords.nd (pi_range1 rfl U.range (pa_cons (pe_call G1 r1 rfl m1 k1 b1 .nil pass0 (pa_cons (pv 0) (pa_cons pe_int pa_nil))) pa_nil)) (blkOk_by (own := [("turn", 6)]) (N := nmWords) (sc := defScope sWords) (by decide +kernel)) (fun _ _ _ _ _ => pg_name (i := 6) scWords.nd rfl (Or.inl rfl)) (fun _ _ _ _ _ => pts_nil)
        (fun _ _ _ _ _ => pe_call G2 hr rfl m2 k2 b2 .nil pass0 (pa_cons (pv 0) (pa_cons (pv 2) pa_nil))))))
    (pss_cons (ps_set (i := 7) scWords.nd rfl (.inr rfl) (pe_join pe_str (pe_lc (own := [("turn", 6)]) (g := gName 6) (tt := tYes) (by rfl) scWords.nd (pi_range1 rfl U.range (pa_cons (pe_call G1 r1 rfl m1 k1 b1 .nil pass0 (pa_cons (pv 0) (pa_cons pe_int pa_nil))) pa_nil)) (blkOk_by (own := [("turn", 6)]) (N := nmWords) (sc := defScope sWords) (by decide +kernel)) (fun _ _ _ _ _ => pg_name (i := 6) scWords.nd rfl (Or.inl rfl)) (fun _ _ _ _ _ => pts_nil)
        (fun _ _ _ _ _ => pe_call G2 hr rfl m2 k2 b2 .nil pass0 (pa_cons (pv 0) (pa_cons (pv 2) pa_nil))))))
    (pss_one (ps_ret (pe_lc (own := [("spot", 8)]) (g := gName 8) (tt := tYes) (by rfl) scWords.nd (pi_range1 rfl U.range (pa_cons (pv 1) pa_nil)) (blkOk_by (own := [("spot", 8)]) (N := nmWords) (sc := defScope sWords) (by decide +kernel)) (fun _ _ _ _ _ => pg_name (i := 8) scWords.nd rfl (Or.inl rfl)) (fun _ _ _ _ _ => pts_nil)
        (fun _ _ _ _ _ => pe_op op_add_str (pe_op op_add_str (pv 5) (pe_ix ix_str (pv 2) (pe_op op_mod (pe_callTy call_int1 (by rfl) T.int (by decide +kernel) (pa_cons (pe_op op_add (pv 3) (pe_op op_mul (pv 4) (pv 8))) pa_nil)) pe_int) (fun _ _ => rfl))) (pv 7)))))))), ?_⟩
  have ab : ∀ {H' : Hp} {R : VK} {v : V}, PoolAt H' p → v = .str abc → (∀ H2 c, c ∈ abc.cps.toList → PoolOff p H' H2 → R (.str ⟨#[c]⟩) H2) → spOne K [.ref p, v] H' R E0 := fun h e g => ⟨p, _, rfl, h, .inr ⟨abc, e, by rw [abc_len]; decide, by rw [abc_len]; decide, g⟩⟩
  obtain ⟨a, b, ep, a0, b0, b1'⟩ := id hp
  -- first, stride
  refine ⟨_, rfl, p, a, b, 26, rfl, ep, a0, b0, b1', by decide, by decide, fun r x' y' r0 r1' x0 y0 y1 => ?_⟩
  have g1 : PoolOff p H (upd H p (.lst [.int x', .int y'])) := pool_upd x0 y0 y1
  generalize upd H p (.lst [.int x', .int y']) = H1 at g1
  refine ⟨_, rfl, by show 12 ≤ sizeLine; decide, fun l hl => ?_⟩
  have nl : l ≠ p := g1.2.ne hl
  have g2 : PoolOff p H1 (upd H1 l (.lst [.int 1, .int 3, .int 5, .int 7, .int 9, .int 11, .int 15, .int 17, .int 19, .int 21, .int 23, .int 25])) := ⟨off_new (SameOff.refl _ _) hl, g1.2.same (same_upd hl _)⟩
  refine ⟨p, .ref l, rfl, g2.2, .inl ⟨l, _, rfl, nl, SqL.of upd_same, by rw [strides_len]; decide, by rw [strides_len]; decide, fun H3 i v hv g3 => ?_⟩⟩
  obtain ⟨st, rfl, st0, st25, stN⟩ := stridesN i v hv
  have g4 := (g1.trans g2).trans g3
  refine ⟨by show 2 ≤ sizeLine; decide, fun t ht => ?_⟩
  have g5 : PoolOff p H (upd H3 t (.tup [.int r, .int st])) := g4.trans ⟨off_new (SameOff.refl _ _) ht, g3.2.same (same_upd ht _)⟩
  refine ⟨t, _, rfl, SqT.of upd_same, rfl, _, _, rfl, _, _, rfl, rfl, ?_⟩
  generalize upd H3 t (.tup [.int r, .int st]) = H4 at g5
  -- head
  obtain ⟨ha, hb, he, ha0, hb0, hb1⟩ := id g5.2
  refine ⟨⟨_, rfl⟩, _, rfl, p, ha, hb, 3, rfl, he, ha0, hb0, hb1, by decide, by decide, fun r1 x1 y1 ra rb xa ya yb => ?_⟩
  have gg1 : PoolOff p H4 (upd H4 p (.lst [.int x1, .int y1])) := pool_upd xa ya yb
  generalize upd H4 p (.lst [.int x1, .int y1]) = H5 at gg1
  refine ⟨r1, rfl, by omega, by omega, fun D hD => lc_poolR (R := fun _ _ y => ∃ x : Str, y = .str x ∧ Lets x ∧ x.length = 1) gg1.2 hD (by omega) (fun _ => rfl) (fun i H1 G hi s1 hL hG => ?_) (fun H6 ys s1 d1 l1 hR => ?_)⟩
  · exact ⟨_, rfl, _, rfl, ab s1.2 rfl fun H2 c hc s2 => hG _ H2 s2 fun H3 s3 => ⟨_, rfl, lets_one (abc_let hc), rfl⟩⟩
  obtain ⟨ss1, rfl, st1⟩ := texts_at hR
  rw [List.length_map] at l1
  have jl1 := join_lets (e := ("" : Str)) (by decide +kernel) ss1 st1
  refine ⟨_, D, ss1, rfl, rfl, .inl (SqL.of d1), ?_, ?_⟩
  · have e1 := sum_len1 ss1 st1
    have e2 : ("" : Str).length = 0 := by decide +kernel
    rw [e1, e2]
    omega
  have jn1 : (Txt.join ("" : Str) ss1).length ≤ 2 := by rw [jl1.2]; omega
  replace jl1 := jl1.1
  generalize Txt.join ("" : Str) ss1 = hd1 at jl1 jn1
  have g6 := g5.trans (gg1.trans s1)
  clear hR st1 d1 l1 s1 gg1
  -- tail
  obtain ⟨ta, tb, te, ta0, tb0, tb1⟩ := id g6.2
  refine ⟨⟨_, rfl⟩, _, rfl, p, ta, tb, 3, rfl, te, ta0, tb0, tb1, by decide, by decide, fun r1 x1 y1 ra rb xa ya yb => ?_⟩
  have gg2 : PoolOff p H6 (upd H6 p (.lst [.int x1, .int y1])) := pool_upd xa ya yb
  generalize upd H6 p (.lst [.int x1, .int y1]) = H7 at gg2
  refine ⟨r1, rfl, by omega, by omega, fun D hD => lc_poolR (R := fun _ _ y => ∃ x : Str, y = .str x ∧ Lets x ∧ x.length = 1) gg2.2 hD (by omega) (fun _ => rfl) (fun i H1 G hi s1 hL hG => ?_) (fun H8 ys s1 d1 l1 hR => ?_)⟩
  · exact ⟨_, rfl, _, rfl, ab s1.2 rfl fun H2 c hc s2 => hG _ H2 s2 fun H3 s3 => ⟨_, rfl, lets_one (abc_let hc), rfl⟩⟩
  obtain ⟨ss2, rfl, st2⟩ := texts_at hR
  rw [List.length_map] at l1
  have jl2 := join_lets (e := ("" : Str)) (by decide +kernel) ss2 st2
  refine ⟨_, D, ss2, rfl, rfl, .inl (SqL.of d1), ?_, ?_⟩
  · have e1 := sum_len1 ss2 st2
    have e2 : ("" : Str).length = 0 := by decide +kernel
    rw [e1, e2]
    omega
  have jn2 : (Txt.join ("" : Str) ss2).length ≤ 2 := by rw [jl2.2]; omega
  replace jl2 := jl2.1
  generalize Txt.join ("" : Str) ss2 = tl1 at jl2 jn2
  have g7 := g6.trans (gg2.trans s1)
  clear hR st2 d1 l1 s1 gg2
  -- the words
  refine ⟨_, rfl, n, rfl, by omega, by omega, fun D hD => lc_poolR (R := fun (i : Nat) _ y => ∃ x : Str, y = .str x ∧ WordOk x ∧ x.length ≤ 5 ∧ x = hd1 ++ ⟨#[97 + ((r + st * (0 + (i : Int))) % 26).toNat]⟩ ++ tl1) g7.2 hD (by omega) (fun _ => rfl) (fun i H1 G hi s1 hL hG => ?_) (fun H9 ys s1 d1 l1 hR => ?_)⟩
  · have m0 : 0 ≤ (r + st * (0 + (i : Int))) % 26 := Int.emod_nonneg _ (by decide)
    have m1 : (r + st * (0 + (i : Int))) % 26 < 26 := Int.emod_lt_of_pos _ (by decide)
    have hm : ((r + st * (0 + (i : Int))) % 26).toNat < abc.cps.toList.length := by
      rw [len_codes, abc_len]
      omega
    have z1 : atI abc.cps.toList ((((r + st * (0 + (i : Int))) % 26).toNat : Nat) : Int) = some abc.cps.toList[((r + st * (0 + (i : Int))) % 26).toNat] := atI_nat (List.getElem?_eq_getElem hm)
    rw [show ((((r + st * (0 + (i : Int))) % 26).toNat : Nat) : Int) = (r + st * (0 + (i : Int))) % 26 by omega] at z1
    have hc : isLet abc.cps.toList[((r + st * (0 + (i : Int))) % 26).toNat] = true := abc_let (List.getElem_mem hm)
    have ec := abc_at (by omega : ((r + st * (0 + (i : Int))) % 26).toNat < 26) hm
    generalize abc.cps.toList[((r + st * (0 + (i : Int))) % 26).toNat] = c at z1 hc ec
    refine ⟨_, rfl, _, rfl, _, rfl, _, rfl, _, rfl, _, _, rfl, rfl, .inl ⟨by omega, by omega⟩, _, _, rfl, rfl, .inl ⟨_, rfl, _, _, rfl, rfl, by show (0 : Int) < 26; decide, ?_⟩⟩
    refine ⟨abc, _, c, rfl, rfl, by rw [abc_len]; decide, z1, ?_⟩
    refine ⟨_, _, rfl, rfl, ?_, _, rfl, _, _, rfl, rfl, ?_, ?_⟩
    · rw [len_one]
      exact Nat.le_trans (show _ ≤ 3 by omega) (by decide)
    · rw [len_app, len_one]
      exact Nat.le_trans (show _ ≤ 5 by omega) (by decide)
    · refine hG _ H1 ⟨SameOff.refl _ _, s1.2⟩ fun H3 s3 => ⟨_, rfl, ⟨?_, ?_, lets_app (lets_app jl1 (lets_one hc)) jl2⟩, ?_, ?_⟩
      · rw [len_app, len_app, len_one]
        omega
      · rw [len_app, len_app, len_one]
        omega
      · rw [len_app, len_app, len_one]
        omega
      · rw [ec]
  obtain ⟨ws, rfl, hw⟩ := texts_at (φ := fun x => WordOk x ∧ x.length ≤ 5) fun i y hy => let ⟨x, e, h1, h2, _⟩ := hR i y hy; ⟨x, e, h1, h2⟩
  rw [List.length_map] at l1
  have g8 := g7.trans s1
  refine q H9 D ws g8 (g7.free hD) d1 (by omega) hw (nodup_at fun i j x hi hj => ?_)
  obtain ⟨x1, e1, _, _, x1e⟩ := hR i (.str x) (by rw [List.getElem?_map, hi]; rfl)
  obtain ⟨x2, e2, _, _, x2e⟩ := hR j (.str x) (by rw [List.getElem?_map, hj]; rfl)
  cases e1
  cases e2
  have ni := (List.getElem?_eq_some_iff.mp hi).1
  have nj := (List.getElem?_eq_some_iff.mp hj).1
  have ee := mid_inj (x1e.symm.trans x2e)
  have := stN r (i : Int) (j : Int) (by omega) (by omega) (by omega) (by omega) (by omega)
  omega
end
end TS
namespace TS
open PySem L2
abbrev sTurned : Stmt := top 105
theorem erase_perm {α : Type} : ∀ (l : List α) (j : Nat) (h : j < l.length), ([l[j]] ++ l.eraseIdx j).Perm l
  | x :: r, 0, h => List.Perm.refl _
  | x :: r, j + 1, h => by
    have h' : j < r.length := by simpa using h
    have ih := erase_perm r j h'
    show ([r[j]'h'] ++ (x :: r.eraseIdx j)).Perm (x :: r)
    exact (List.Perm.swap x _ _).trans (ih.cons x)
theorem map_erase {α β : Type} (f : α → β) : ∀ (l : List α) (j : Nat), (l.map f).eraseIdx j = (l.eraseIdx j).map f
  | [], _ => rfl
  | x :: r, 0 => rfl
  | x :: r, j + 1 => by
    show f x :: (r.map f).eraseIdx j = f x :: (r.eraseIdx j).map f
    rw [map_erase f r j]
section
variable {P : Program} {w : World} {K : PySem.W.Frag} {mg : Str → Option Value} {base : Heap}
/-! _law_turned, of texts -/
abbrev nmTurned : List Str := ["pool", "things", "left", "found"]
theorem scTurned : FnScope nmTurned ["pool", "things"] (defScope sTurned) := ⟨rfl, rfl, rfl, by decide +kernel, rfl, by decide +kernel, by decide +kernel⟩
def spTurned : Sp := fun vs H Q _ => ∃ (p l : Addr) (ss : List Str), vs = [.ref p, .ref l] ∧ PoolAt H p ∧ l ≠ p ∧ H l = some (.lst (ss.map V.str)) ∧ (∀ x ∈ ss, Plain x) ∧ ss.length ≤ 1000 ∧
  ∀ (H' : Hp) (r : Addr) (ts : List Str), PoolOff p H H' → H r = none → H' r = some (.lst (ts.map V.str)) → ts.Perm ss → Q (.ref r) H'
theorem ok_turned {f : Addr} {fd : FuncData} (F : Fun K "_law_turned" "_law_turned" sTurned f fd) (T : BltT mg) (ml : mg "list" = none) (D1 : Has P w K mg base "_law_take" 1 ["pool", "bound"] spTake) : FnOk P w K mg base CX0 2 f fd ["pool", "things"] spTurned := by
  obtain ⟨f1, fd1, m1, k1, b1, G1⟩ := D1
  refine F.ok scTurned (fun vs H Q E h => ?_) (fun cdv A outer s H vs Q E hr h => ?_)
  · obtain ⟨p, l, ss, rfl, _⟩ := h
    rfl
  obtain ⟨p, l, ss, rfl, hp, nl, hl, hpl, l1, q⟩ := h
  refine ⟨_, pss_cons (ps_par (i := 2) (j := 3) (by rfl) scTurned.nd rfl rfl (by decide) rfl rfl (pa_cons (pe_callTy call_list_of (by rfl) ml (by decide +kernel) (pa_cons (pv 1) pa_nil)) (pa_cons (pe_lst pa_nil) pa_nil)) (by rfl))
    (pss_cons (ps_while PassesOwn.never (pt_cmpR (op_neD hr.units) (pv 2) (pe_lst pa_nil) (nomark _))
      (pss_one (ps_expr (pe_bm PySem.F.plainAttrs_list PySem.F.slot_list_append PySem.F.type_list_append mt_append (pv 3) (pa_cons (pe_bm PySem.F.plainAttrs_list PySem.F.slot_list_pop PySem.F.type_list_pop mt_popAt (pv 2) (pa_cons (pe_call G1 hr rfl m1 k1 b1 .nil pass0 (pa_cons (pv 0) (pa_cons (pe_callB call_len_seq (by rfl) T.len PySem.boot_len (pa_cons (pv 2) pa_nil)) pa_nil))) pa_nil)) pa_nil)))))
    (pss_one (ps_ret (pv 3)))), ?_⟩
  refine ⟨_, rfl, l, _, rfl, .inl (SqL.of hl), fun a ha => ⟨by show 0 ≤ sizeLine; decide, fun b hb => ⟨_, _, rfl, ?_⟩⟩⟩
  have g1 : Same H (upd H a (.lst (ss.map V.str))) := same_upd ha _
  have a1 : (upd H a (.lst (ss.map V.str))) a = some (.lst (ss.map V.str)) := upd_same
  generalize upd H a (.lst (ss.map V.str)) = H1 at g1 a1 hb
  have g2 : Same H1 (upd H1 b (.lst [])) := same_upd hb _
  have b2 : (upd H1 b (.lst [])) b = some (.lst []) := upd_same
  have a2 := g2 _ _ a1
  have ba : b ≠ a := (ne_of_none a1 hb).symm
  generalize upd H1 b (.lst []) = H2 at g2 b2 a2
  have g02 : Same H H2 := g1.trans g2
  have ap : a ≠ p := hp.ne ha
  have bp : b ≠ p := (hp.same g1).ne hb
  refine ⟨fun m σ H' => σ = ((start nmTurned [.ref p, .ref l]).set 2 (some (.ref a))).set 3 (some (.ref b)) ∧ ∃ xs ys : List Str, m = xs.length ∧ PoolOff p H H' ∧ H' a = some (.lst (xs.map V.str)) ∧ H' b = some (.lst (ys.map V.str)) ∧ (ys ++ xs).Perm ss, ⟨ss.length, rfl, ss, [], rfl, ⟨Same.off g02, hp.same g02⟩, a2, b2, by simp⟩, ?_⟩
  rintro m σ H3 ⟨rfl, xs, ys, rfl, s3, a3, b3, pm⟩
  have lxy : ys.length + xs.length = ss.length := by
    have := pm.length_eq
    rwa [List.length_append] at this
  have hpx : ∀ x ∈ xs, Plain x := fun x hx => hpl x (pm.mem_iff.mp (by simp [hx]))
  refine ⟨_, rfl, by show 0 ≤ sizeLine; decide, fun z hz => ?_⟩
  have g4 : Same H3 (upd H3 z (.lst [])) := same_upd hz _
  refine ⟨strsD xs, .list [], .lst (SqL.of (g4 _ _ a3)) (dpStrs xs), .lst (SqL.of upd_same) .nil, shaped_mk (strsD_lay hpx) (Nat.le_trans (strsD_dep xs) (by decide)), by decide +kernel, _, rfl, ?_⟩
  have s4 : PoolOff p H (upd H3 z (.lst [])) := s3.trans ⟨Same.off g4, s3.2.same g4⟩
  have a4 := g4 _ _ a3
  have b4 := g4 _ _ b3
  generalize upd H3 z (.lst []) = H4 at s4 a4 b4
  by_cases x0 : xs.length = 0
  · have ex : xs = [] := List.length_eq_zero_iff.mp x0
    subst ex
    have e : PyData.eqv (strsD []) (.list []) = true := by simp [strsD, PyData.eqv, PyData.eqvAll]
    rw [e]
    exact iteF ⟨_, rfl, q H4 b ys s4 (g1.free hb) b4 (by simpa using pm)⟩
  have e : PyData.eqv (strsD xs) (.list []) = false := by
    cases xs with
    | nil => simp at x0
    | cons n ns => simp [strsD, PyData.eqv, PyData.eqvAll]
  rw [e]
  obtain ⟨x, y, ep, c0, y0, y1⟩ := id s4.2
  refine iteT ⟨fun σ H' => σ = ((start nmTurned [.ref p, .ref l]).set 2 (some (.ref a))).set 3 (some (.ref b)) ∧ ∃ xs' ys' : List Str, xs'.length < xs.length ∧ PoolOff p H H' ∧ H' a = some (.lst (xs'.map V.str)) ∧ H' b = some (.lst (ys'.map V.str)) ∧ (ys' ++ xs').Perm ss, fun σ' H' ⟨h1, xs', ys', h2, h3⟩ => ⟨xs'.length, h2, h1, xs', ys', rfl, h3⟩, ?_⟩
  refine ⟨_, rfl, .inl ⟨rfl, _, SqL.of b4⟩, _, rfl, .inl ⟨rfl, _, SqL.of a4⟩, _, rfl, _, rfl, a, _, rfl, .inl (SqL.of a4), p, x, y, _, rfl, ep, c0, y0, y1, ?_, ?_, fun r x' y' r0 r1 d0 e0 e1 => ?_⟩
  · rw [List.length_map]
    omega
  · rw [List.length_map]
    omega
  rw [List.length_map] at r1
  have s5 : PoolOff p H4 (upd H4 p (.lst [.int x', .int y'])) := pool_upd d0 e0 e1
  have a5 := s5.1 _ _ a4 (by simpa using ap)
  have b5 := s5.1 _ _ b4 (by simpa using bp)
  have s05 := s4.trans s5
  generalize upd H4 p (.lst [.int x', .int y']) = H5 at s05 a5 b5
  have hr1 : r.toNat < xs.length := by omega
  have z1 : atI (xs.map V.str) ((r.toNat : Nat) : Int) = some (.str xs[r.toNat]) := atI_nat (by rw [List.getElem?_map, List.getElem?_eq_getElem hr1]; rfl)
  rw [show ((r.toNat : Nat) : Int) = r by omega] at z1
  obtain ⟨j, hj1, hj2, hj3, _, _⟩ := atI_get z1
  rw [List.length_map] at hj3
  have ej : xs[r.toNat] = xs[j] := by
    rw [List.getElem?_map, List.getElem?_eq_getElem hj3] at hj2
    injection hj2 with e
    injection e with e
    exact e.symm
  rw [ej] at hj2
  have s6 : PoolOff p H (upd (upd H5 a (.lst ((xs.map V.str).eraseIdx j))) b (.lst (ys.map V.str ++ [.str xs[j]]))) := by
    refine ⟨fun c o e n => ?_, ?_⟩
    · have e1 := s05.1 c o e n
      have ca : c ≠ a := ne_of_none e ha
      have cb : c ≠ b := ne_of_none (g1 _ _ e) hb
      rw [upd_ne cb, upd_ne ca]
      exact e1
    · obtain ⟨u, v, e, rr⟩ := s05.2
      exact ⟨u, v, by rw [upd_ne bp.symm, upd_ne ap.symm]; exact e, rr⟩
  refine ⟨a, _, r, j, _, rfl, rfl, a5, by omega, by omega, hj1, hj2, b, ys.map V.str, _, rfl, rfl, by rw [upd_ne ba]; exact b5, ?_, rfl, xs.eraseIdx j, ys ++ [xs[j]], ?_, s6, ?_, ?_, ?_⟩
  · rw [List.length_map]
    exact small1000 (by omega)
  · rw [List.length_eraseIdx_of_lt hj3]
    omega
  · rw [upd_ne ba.symm, upd_same, map_erase]
  · rw [upd_same, List.map_append]
    rfl
  · refine List.Perm.trans ?_ pm
    rw [List.append_assoc]
    exact (List.Perm.refl ys).append (erase_perm xs j hj3)
end
end TS
namespace TS
open PySem L2
abbrev sIsWord : Stmt := top 18
abbrev sIsRow : Stmt := top 19
abbrev sShort : Stmt := top 20
/-- whether a text is a word -/
def wordOk (x : Str) : Bool := decide (1 ≤ x.length ∧ x.length ≤ 8) && x.cps.toList.all isLet
theorem wordOk_iff {x : Str} : wordOk x = true ↔ WordOk x := by
  unfold wordOk WordOk
  rw [Bool.and_eq_true, decide_eq_true_eq, List.all_eq_true]
  exact ⟨fun h => ⟨h.1.1, h.1.2, h.2⟩, fun h => ⟨⟨h.1, h.2.1⟩, h.2.2⟩⟩
section
variable {P : Program} {w : World} {K : PySem.W.Frag} {mg : Str → Option Value} {base : Heap}
def spIsWord (K : PySem.W.Frag) : Sp := fun vs H Q _ => ∃ v : V, vs = [v] ∧ ((∃ x : Str, v = .str x ∧ x.length ≤ 100000 ∧ ∀ H', Same H H' → Q (.bl (wordOk x)) H') ∨ (∃ ty : Value, TyX K H v ty ∧ PySem.W.kitOne K ty (.type "str") = some false ∧ Q (.bl false) H))
abbrev nmIsWord : List Str := ["value", "sign"]
theorem scIsWord : FnScope nmIsWord ["value"] (defScope sIsWord) := ⟨rfl, rfl, rfl, by decide +kernel, rfl, by decide +kernel, by decide +kernel⟩
theorem ok_isword {f : Addr} {fd : FuncData} (F : Fun K "is_word" "is_word" sIsWord f fd) (T : BltT mg) (ma : mg "all" = none) (m8 : ∃ t, mg "MOST_LETTERS" = some (.int 8 t)) (ml : ∃ t, mg "LETTERS" = some (.str "abcdefghijklmnopqrstuvwxyz" t)) :
    FnOk P w K mg base CX0 1 f fd ["value"] (spIsWord K) := by
  obtain ⟨t8, m8⟩ := m8
  obtain ⟨tl, ml⟩ := ml
  refine F.ok scIsWord (fun vs H Q E h => ?_) (fun cdv A outer s H vs Q E hr h => ?_)
  · obtain ⟨v, rfl, _⟩ := h
    rfl
  obtain ⟨v, rfl, h⟩ := h
  refine ⟨_, pss_cons (ps_if (PW.pt (pw_or (pt_not (pt_val (pe_callB call_isi (by rfl) T.isi bIsi (pa_cons (pv 0) (pa_cons (pe_bltn (by rfl) T.str (v := .ty "str") (by decide +kernel) rfl) pa_nil)))))
        (pw_or1 (pt_not (pt_chain op_le op_le pe_int (pe_callB call_len_str (by rfl) T.len PySem.boot_len (pa_cons (pv 0) pa_nil)) (pe_glob rfl m8 (show RelV (.int 8) (.int 8 t8) from ⟨_, rfl⟩))))))) (pss_one (ps_ret pe_bl)) pss_nil)
    (pss_one (ps_ret (pe_callB (cr_all rfl) (by rfl) ma (by decide +kernel) (pa_cons
      (pe_lc (own := [("sign", 1)]) (g := gName 1) (tt := tYes) (by rfl) scIsWord.nd (pi_str (pv 0)) (blkOk_by (own := [("sign", 1)]) (N := nmIsWord) (sc := defScope sIsWord) (by decide +kernel)) (fun _ _ _ _ _ => pg_name (i := 1) scIsWord.nd rfl (Or.inl rfl)) (fun _ _ _ _ _ => pts_nil)
        (fun _ _ _ _ _ => pe_cmpR op_in_sign (pv 1) (pe_glob rfl ml (show RelV (.str "abcdefghijklmnopqrstuvwxyz") (.str "abcdefghijklmnopqrstuvwxyz" tl) from ⟨_, rfl⟩)) (by rfl))) pa_nil)))), ?_⟩
  rcases h with ⟨x, rfl, hx, q⟩ | ⟨ty, hty, hk, q⟩
  case inr =>
    refine ⟨_, rfl, _, _, _, _, _, rfl, .ty "str", hty, hk, _, rfl, iteT (iteT ?_)⟩
    exact q
  have big : x.length ≤ sizeLine := Nat.le_trans hx (by decide)
  refine ⟨_, rfl, _, _, _, _, _, rfl, .ty "str", .base (.str x), kit_ty (r := true) (by decide +kernel), _, rfl, iteF ?_⟩
  refine ⟨_, rfl, x, rfl, big, _, _, rfl, rfl, _, rfl, ?_⟩
  by_cases c1 : (1 : Int) ≤ (x.length : Nat)
  · rw [decide_eq_true c1]
    refine iteT ⟨_, _, rfl, rfl, _, rfl, ?_⟩
    by_cases c8 : ((x.length : Nat) : Int) ≤ 8
    · rw [decide_eq_true c8]
      refine iteF ?_
      have e : wordOk x = (x.cps.toList.map isLet).all id := by
        unfold wordOk
        rw [decide_eq_true (by omega), Bool.true_and, List.all_map]
        rfl
      refine ⟨_, rfl, x, rfl, fun D hD => lc_it walk_str (fun i H1 => Same H H1 ∧ H1 D = some (.lst (((x.cps.toList.take i).map isLet).map V.bl))) ⟨same_upd hD _, upd_same⟩ (fun _ _ _ _ => trivial) (fun i y H1 H2 hi z hy => ?_) (fun H1 z => ?_)⟩
      · obtain ⟨s1, d1⟩ := z
        obtain ⟨rfl, c, hc, rfl⟩ := hy
        have hc' : x.cps.toList[i]? = some c := by rw [Array.getElem?_toList]; exact hc
        refine ⟨rfl, ?_⟩
        unfold tYes
        dsimp only
        rw [if_pos rfl]
        refine ⟨_, rfl, c, _, rfl, rfl, _, d1, ?_, fun b o h => ?_, ?_⟩
        · have hi' : i < x.length := hi
          simp only [List.length_map, List.length_take]
          exact Nat.lt_of_le_of_lt (m := 1000) (by omega) (by decide)
        · rw [upd_ne (ne_of_none h hD)]
          exact s1 b o h
        · rw [upd_same, List.take_succ, hc', List.map_append, List.map_append]
          rfl
      · obtain ⟨s1, d1⟩ := z
        rw [show x.cps.size = x.cps.toList.length from Array.length_toList.symm, List.take_length] at d1
        refine ⟨D, _, rfl, SqL.of d1, ?_⟩
        rw [← e]
        exact q H1 s1
    · rw [decide_eq_false c8]
      refine iteT ?_
      have e : wordOk x = false := by
        unfold wordOk
        rw [decide_eq_false (by omega)]
        rfl
      rw [e] at q
      exact q H (Same.refl H)
  · rw [decide_eq_false c1]
    refine iteF ⟨_, rfl, iteT ?_⟩
    have e : wordOk x = false := by
      unfold wordOk
      rw [decide_eq_false (by omega)]
      rfl
    rw [e] at q
    exact q H (Same.refl H)
end
end TS
namespace TS
open PySem L2
section
variable {P : Program} {w : World} {K : PySem.W.Frag} {mg : Str → Option Value} {base : Heap}
theorem text_iff {t u : Tr} (hf : t.fine) (hd : t.deep ≤ 3) (gf : u.fine) (gd : u.deep ≤ 3) : decide (V.str t.text = V.str u.text) = PyData.eqv t.data u.data := by
  rw [Bool.eq_iff_iff, decide_eq_true_iff, Tr.eqv_iff]
  constructor
  · intro h
    injection h with h
    exact text_inj hf hd gf gd h
  · intro h
    rw [h]
theorem no_first {C : Addr} {t : Value} (h : PySem.W.kitOne K t (.ref C) = some false) : PySem.W.notFirst K C t = true := by
  unfold PySem.W.kitOne at h
  split at h
  · cases h
  · unfold PySem.W.kitCls at h
    simp only at h
    split at h
    · unfold PySem.W.notFirst
      rw [h]
      simp
    · cases h
theorem self_first {C : Addr} : PySem.W.notFirst K C (.ref C) = true := by
  unfold PySem.W.notFirst
  simp
/-- a Term beside a Term -/
theorem eq_term {C a b : Addr} {t u : Tr} {H : Hp} {Q : VK} {E : XK} {g : Bool → Bool} (TK : TermK K mg C) (ht : TermAt C H a t) (hu : TermAt C H b u) (q : Q (.bl (g (PyData.eqv t.data u.data))) H) : rOwn2 K C (spTEq K C) E g (.ref a) (.ref b) H Q := by
  obtain ⟨_, _, dx, v, l, qq, r, ws, ns, e, _⟩ := id ht
  obtain ⟨_, _, dx', v', l', qq', r', ws', ns', e', _⟩ := id hu
  refine ⟨a, dx, _, _, rfl, e, TK.ty e', self_first, a, t, .ref b, rfl, ht, .inl ⟨b, u, rfl, hu, _, rfl, ?_⟩⟩
  rw [text_iff ht.fine ht.deep hu.fine hu.deep]
  exact q
/-- a Term beside what is none -/
theorem eq_other {C a : Addr} {t : Tr} {y : V} {ty : Value} {H : Hp} {Q : VK} {E : XK} {g : Bool → Bool} (ht : TermAt C H a t) (hy : TyX K H y ty) (k : PySem.W.kitOne K ty (.ref C) = some false) (q : Q (.bl (g false)) H) : rOwn2 K C (spTEq K C) E g (.ref a) y H Q := by
  obtain ⟨_, _, dx, v, l, qq, r, ws, ns, e, _⟩ := id ht
  exact ⟨a, dx, _, _, rfl, e, hy, no_first k, a, t, y, rfl, ht, .inr ⟨ty, hy, k, _, rfl, q⟩⟩
theorem tree_ty {C : Addr} {H : Hp} {v : V} {t : Tr} (TK : TermK K mg C) (h : TrAt H v t) : ∃ ty, TyX K H v ty ∧ PySem.W.kitOne K ty (.ref C) = some false := by
  cases h with
  | num n => exact ⟨_, .base (.int n), TK.kInt⟩
  | wd x => exact ⟨_, .base (.str x), TK.kStr⟩
  | ch h _ _ _ _ => exact ⟨_, .base (.tup h), TK.kTup⟩
theorem eqv_self {t : Tr} (h : t.fine) : PyData.eqv t.data t.data = true := (Tr.eqv_iff t t).mpr rfl
theorem tr_num {H : Hp} {v : V} {n : Int} (h : TrAt H v (.num n)) : v = .int n := by
  cases h
  rfl
theorem tr_wd {H : Hp} {v : V} {x : Str} (h : TrAt H v (.wd x)) : v = .str x := by
  cases h
  rfl
/-- a Term made, once its places are known -/
theorem make_at {C : Addr} {H : Hp} {x : V} {t : Tr} {Z : VK} {E : XK} (hm : Makes C H x t) (hf : t.fine) (hd : t.deep ≤ 3) {a dx : Addr} (na : H a = none) (nd : H dx = none) (ne : dx ≠ a)
    (q : ∀ H', Same H H' → (∀ Ds, Lists Ds H → ∀ G, SameOff Ds H' G → TermAt C G a t) → Z .non H') : spTInit C (.ref a :: ([x] ++ [])) (upd (upd H dx (.own a)) a (.ins C dx [])) Z E := by
  have s0 : Same H (upd (upd H dx (.own a)) a (.ins C dx [])) := fun b o e => by
    rw [upd_ne (ne_of_none e na), upd_ne (ne_of_none e nd)]
    exact e
  exact ⟨a, dx, x, t, rfl, upd_same, hm.same s0, hf, hd, fun H' sx ht => q H' (fun b o e => sx b o (s0 b o e) (ne_of_none e na)) fun Ds hDs => ht Ds fun D m => let ⟨xs, e⟩ := hDs D m; ⟨xs, s0 _ _ e⟩⟩
end
end TS
namespace TS
open PySem PySem.Spec PyProof.Rows L2
/-! a staticmethod called off its class; a method whose errors are wished for at the caller's slots -/
structure SMet (K : PySem.W.Frag) (C : Addr) (mc : Value) (m : Str) (p g : Addr) : Prop where
  rd : PySem.W.readsIn K C mc = true
  ga : PySem.W.specialIn K (.ref C) "__getattribute__" = some (some (.builtin "type.__getattribute__"))
  at_ : PySem.W.findCls K (.ref C) mc m = some (.get (.builtin "staticmethod.__get__") (.ref p) .none (.ref C))
  rc : ∃ rest, PySem.W.recIn K p "staticmethod" = some (.ref g :: rest)
  kp : PySem.W.keepIn K (.ref g) = true
/-- C.m(..), m a staticmethod -/
def tSMeth (C : Addr) (sp : Sp) (E : XK) (ta : TE) (t : TA) : TE := fun σ H Q => ta σ H fun x H1 => x = .ref C ∧ t σ H1 fun vs H2 => sp vs H2 Q E
/-- o.m(..), E at the caller's slots -/
def tMethE (C : Addr) (m : Str) (sp : Sp) (E : L2.St → XK) (ta : TE) (t : TA) : TE := fun σ H Q => ta σ H fun x H1 => ∃ a dx fs, x = .ref a ∧ H1 a = some (.ins C dx fs) ∧ fs.lookup m = none ∧ t σ H1 fun vs H2 => sp (x :: vs) H2 Q (E σ)
section
variable {X : Cx} {CX : CXT} {k : Nat} {C p f g : Addr} {mc : Value} {fd : FuncData} {ps : List Str} {sp : Sp} {E : XK} {o e : Expr} {es : List Expr} {m : Str} {pos apos : Pos} {ta : TE} {t : TA} {pl : Sem Bool}
theorem pe_smeth (he : PE X o ta) (c : SMet X.K C mc m p g) (F : FnOk X.prog X.w X.K X.mg X.base CX k g fd ps sp) (hr : Room k X.A) (hb : Binds X.K fd ps []) (hx : Passes CX X E) (ha : PA X (e :: es) t)
    (hst : starEach (e :: es) X.env = (false, eval e X.env) :: starEach es X.env := by rfl) (hpl : (backTo pos (starEach es X.env)).any (·.1) = false := by rfl)
    (ht : eval (.Call (.Attribute o m apos) (e :: es) [] pos) X.env = (do
      let ov ← eval o X.env
      standAt apos.atName
      let (f, first) ← holding [ov] (getMethod ov m pl)
      callWith pos f first (backTo pos (starEach (e :: es) X.env)) (backToKw pos (keywordEach [] X.env))) := by rfl) :
    PE X (.Call (.Attribute o m apos) (e :: es) [] pos) (tSMeth C sp E ta t) := by
  refine ⟨fun pins s σ H Q I h => ?_⟩
  refine PySem.W.methodCall_KW (pl := pl) (thn (he.run pins s σ H _ I h) fun u s1 ⟨x, H1, I1, rx, ex, q⟩ => ?_) ht
  subst ex
  obtain rfl : u = Value.ref C := rx
  obtain ⟨rest, hp⟩ := c.rc
  refine PySem.W.method_cls I1.kIn c.ga (PySem.W.cls_bind I1.kIn c.rd c.at_ ?_)
  refine wpAny_call (PySem.W.sm_get (s := { s1 with toks := s1.toks + 1 }) I1.kIn hp (PySem.W.handed_on rfl ?_))
  have I2 := I1.tok (s1.toks + 1)
  refine PySem.W.callWith_K (first := []) (h₀ := X.base) I.ok.mod.kin c.kp (thn (ha.run pos pins _ σ H1 _ I2 q) fun us s2 ⟨vs, H2, I3, r, q2⟩ => ⟨I3.kIn, ?_⟩) hst hpl
  exact run_fn (us := us) (vs := vs) (ds := []) (dvs := []) F hr hb .nil hx I3 r (by rw [List.append_nil]; exact q2)
theorem pe_methE {E : L2.St → XK} (he : PE X o ta) (c : Cls X.K C) (hm : Meth X.K C m f) (F : FnOk X.prog X.w X.K X.mg X.base CX k f fd ps sp) (hr : Room k X.A) (hb : Binds X.K fd ps []) (hx : ∀ σ, PassesAt CX X σ (E σ)) (ha : PA X (e :: es) t)
    (hst : starEach (e :: es) X.env = (false, eval e X.env) :: starEach es X.env := by rfl) (hpl : (backTo pos (starEach es X.env)).any (·.1) = false := by rfl)
    (ht : eval (.Call (.Attribute o m apos) (e :: es) [] pos) X.env = (do
      let ov ← eval o X.env
      standAt apos.atName
      let (f, first) ← holding [ov] (getMethod ov m pl)
      callWith pos f first (backTo pos (starEach (e :: es) X.env)) (backToKw pos (keywordEach [] X.env))) := by rfl) :
    PE X (.Call (.Attribute o m apos) (e :: es) [] pos) (tMethE C m sp E ta t) := by
  refine ⟨fun pins s σ H Q I h => ?_⟩
  refine PySem.W.methodCall_KW (pl := pl) (thn (he.run pins s σ H _ I h) fun u s1 ⟨x, H1, I1, rx, a, dx, fs, ex, ea, l, q⟩ => ?_) ht
  subst ex
  obtain rfl : u = Value.ref a := rx
  refine getmeth_ok I1 ea c hm l ?_
  refine PySem.W.callWith_K (first := [.ref a]) (h₀ := X.base) I.ok.mod.kin hm.kp (thn (ha.run pos pins s1 σ H1 _ I1 q) fun us s2 ⟨vs, H2, I2, r, q2⟩ => ⟨I2.kIn, ?_⟩) hst hpl
  exact run_fnS (us := .ref a :: us) (vs := .ref a :: vs) F hr hb (hx σ) I2 (.cons rfl r) q2
end
end TS
namespace TS
open PySem L2
abbrev sDInit : Stmt := (inClass (top 52) 0)
/-- a statement that isn't reached -/
theorem ps_dead {X : Cx} {st : Stmt} : PS X st (fun _ _ _ => False) := ⟨fun _ _ _ _ _ _ h => h.elim⟩
/-- a deed's text -/
def deedText (x : Str) (l : Bool) (t : Tr) : Str := Str.empty ++ x ++ " " ++ (if l = true then "<=" else ":=" : Str) ++ " " ++ t.text
def dfs (x : Str) (p : Addr) (l : Bool) (z : Str) : List (Str × V) := putF "_text" (.str z) (putF "_late" (.bl l) (putF "_term" (.ref p) (putF "_variable" (.str x) [])))
theorem dfs_var (x : Str) (p : Addr) (l : Bool) (z : Str) : (dfs x p l z).lookup ("_variable" : Str) = some (.str x) := by
  unfold dfs
  rw [lookup_putF, if_neg (by decide +kernel), lookup_putF, if_neg (by decide +kernel), lookup_putF, if_neg (by decide +kernel), lookup_putF, if_pos rfl]
theorem dfs_term (x : Str) (p : Addr) (l : Bool) (z : Str) : (dfs x p l z).lookup ("_term" : Str) = some (.ref p) := by
  unfold dfs
  rw [lookup_putF, if_neg (by decide +kernel), lookup_putF, if_neg (by decide +kernel), lookup_putF, if_pos rfl]
theorem dfs_late (x : Str) (p : Addr) (l : Bool) (z : Str) : (dfs x p l z).lookup ("_late" : Str) = some (.bl l) := by
  unfold dfs
  rw [lookup_putF, if_neg (by decide +kernel), lookup_putF, if_pos rfl]
theorem dfs_text (x : Str) (p : Addr) (l : Bool) (z : Str) : (dfs x p l z).lookup ("_text" : Str) = some (.str z) := by
  unfold dfs
  rw [lookup_putF, if_pos rfl]
structure DeedAt (CD C : Addr) (H : Hp) (a : Addr) (x : Str) (l : Bool) (t : Tr) : Prop where
  word : WordOk x
  ob : ∃ dx p : Addr, H a = some (.ins CD dx (dfs x p l (deedText x l t))) ∧ TermAt C H p t
theorem DeedAt.same {CD C a : Addr} {H H' : Hp} {x : Str} {l : Bool} {t : Tr} (h : DeedAt CD C H a x l t) (s : Same H H') : DeedAt CD C H' a x l t := by
  obtain ⟨hw, dx, p, e, ht⟩ := h
  exact ⟨hw, dx, p, s _ _ e, ht.same s⟩
theorem TermAt.sameX {C p a CD dx : Addr} {H H' : Hp} {t : Tr} {fs : List (Str × V)} (h : TermAt C H a t) (s : SameX p H H') (hp : H p = some (.ins CD dx fs)) (na : a ≠ p) : TermAt C H' a t := by
  obtain ⟨hf, hd, dx', v, l, q, r, ws, ns, h1, h2, h3, h4, h5, h6⟩ := h
  refine ⟨hf, hd, dx', v, l, q, r, ws, ns, s _ _ h1 na, h2.sameX s (ins_tup hp), s _ _ h3 ?_, s _ _ h4 ?_, s _ _ h5 ?_, h6⟩
  · exact ne_of h3 hp (by intro z; cases z)
  · exact ne_of h4 hp (by intro z; cases z)
  · exact ne_of h5 hp (by intro z; cases z)
section
variable {P : Program} {w : World} {K : PySem.W.Frag} {mg : Str → Option Value} {base : Heap}
structure DeedK (K : PySem.W.Frag) (mg : Str → Option Value) (CD : Addr) : Prop where
  cl : Cls K CD
  mgC : mg "Deed" = some (.ref CD)
  n1 : NoAttr K CD "_variable"
  n2 : NoAttr K CD "_term"
  n3 : NoAttr K CD "_late"
  n4 : NoAttr K CD "_text"
  once : ∃ t, mg "AT_ONCE" = some (.str ":=" t)
  late : ∃ t, mg "AT_END" = some (.str "<=" t)
abbrev nmDInit : List Str := ["self", "variable", "term", "late", "held"]
theorem scDInit : FnScope nmDInit ["self", "variable", "term", "late"] (defScope sDInit) := ⟨rfl, rfl, rfl, by decide +kernel, rfl, by decide +kernel, by decide +kernel⟩
def spDInit (CD C : Addr) : Sp := fun vs H Q _ => ∃ (p dx : Addr) (x : Str) (y : V) (l : Bool) (t : Tr), vs = [.ref p, .str x, y, .bl l] ∧ H p = some (.ins CD dx []) ∧ WordOk x ∧ Makes C H y t ∧ t.fine ∧ t.deep ≤ 3 ∧
  ∀ H', SameX p H H' → (∀ Ds, Lists Ds H → ∀ G, SameOff Ds H' G → DeedAt CD C G p x l t) → Q .non H'
/-- str(a Term) -/
def HasStr (P : Program) (w : World) (K : PySem.W.Frag) (mg : Str → Option Value) (base : Heap) (C : Addr) : Prop := ∃ f fd, PySem.W.findIn K (.ref C) "__str__" = some (some (.ref f)) ∧ PySem.W.isFn K (.ref f) = true ∧ Binds K fd ["self"] [] ∧ FnOk P w K mg base CX0 1 f fd ["self"] (spTStr C)
theorem ok_dinit {C CD f : Addr} {fd : FuncData} (F : FunD K "__init__" "Deed.__init__" (defArgs sDInit) (defBody sDInit) (defScope sDInit) [] [("late", .bl false)] f fd) (T : BltT mg) (TK : TermK K mg C) (DK : DeedK K mg CD)
    (DW : Has P w K mg base "is_word" 1 ["value"] (spIsWord K)) (DT : HasTerm P w K mg base C) (DS : HasStr P w K mg base C) : FnOk P w K mg base CX0 14 f fd ["self", "variable", "term", "late"] (spDInit CD C) := by
  obtain ⟨f1, fd1, m1, k1, b1, G1⟩ := DW
  obtain ⟨f3, fd3, M3, b3, G3⟩ := DT
  obtain ⟨f4, fd4, h4, i4, b4, G4⟩ := DS
  obtain ⟨tO, mO⟩ := DK.once
  obtain ⟨tE, mE⟩ := DK.late
  refine F.ok scDInit (fun vs H Q E h => ?_) (fun cdv A outer s H vs Q E hr h => ?_)
  · obtain ⟨p, dx, x, y, l, t, rfl, _⟩ := h
    rfl
  obtain ⟨p, dx, x, y, l, t, rfl, hp, hx, hm, hf, hd, q⟩ := h
  have r1 : Room 1 _ := hr.mono (by decide)
  have r3 : Room 3 _ := hr.mono (by decide)
  suffices main : ∃ t', PSs (cxOf CX0 P w K mg base nmDInit "Deed.__init__" (defScope sDInit) f cdv A outer s H E).nox (defBody sDInit) t' ∧ t' { nx := fun _ H' => Q .non H', rt := Q } (start nmDInit [.ref p, .str x, y, .bl l]) H by
    obtain ⟨t', h1, h2⟩ := main
    exact ⟨t', h1.nox, h2⟩
  refine ⟨_, pss_cons (ps_if (pt_not (pt_val (pe_call G1 r1 rfl m1 k1 b1 .nil pass0 (pa_cons (pv 1) pa_nil)))) (pss_one ps_dead) pss_nil)
    (pss_cons (ps_try_thru0 (pss_one (ps_set (i := 4) scDInit.nd rfl (.inl rfl) (pe_make M3 G3 hr rfl TK.mgC b3 .nil pass0 (pa_cons (pv 2) pa_nil)))))
    (pss_cons (ps_if (pt_not (pt_val (pe_callB call_isi (by rfl) T.isi bIsi (pa_cons (pv 3) (pa_cons (pe_bltn (by rfl) T.bool (v := .ty "bool") (by decide +kernel) rfl) pa_nil))))) (pss_one ps_dead) pss_nil)
    (pss_cons (ps_fld (pv 0) (pv 1) rfl)
    (pss_cons (ps_fld (pv 0) (pv 4) rfl)
    (pss_cons (ps_fld (pv 0) (pv 3) rfl)
    (pss_one (ps_fld (pv 0) (pe_joined (.cons (pe_fmt (pv 1)) (.cons pe_str (.cons (pe_fmt (pe_ifExp (pt_val (pv 3)) (pe_glob rfl mE (show RelV (.str "<=") (.str "<=" tE) from ⟨_, rfl⟩)) (pe_glob rfl mO (show RelV (.str ":=") (.str ":=" tO) from ⟨_, rfl⟩)))) (.cons pe_str
      (.cons (pe_fmt (pe_callTy (cr_strOwn G4 h4 i4 b4 pass0 r3) (by rfl) T.str (by decide +kernel) (pa_cons (pv 4) pa_nil))) .nil)))))) rfl))))))), ?_⟩
  have lx : x.length ≤ 8 := hx.2.1
  refine ⟨_, rfl, .str x, rfl, .inl ⟨x, rfl, by omega, fun H1 s1 => ⟨_, rfl, ?_⟩⟩⟩
  rw [wordOk_iff.mpr hx]
  refine iteF ⟨_, rfl, ?_⟩
  intro a da na nda nea
  refine make_at (hm.same s1) hf hd na nda nea fun H2 s2 hT => ⟨rfl, ?_⟩
  have p1 := s1 _ _ hp
  have p2 := s2 _ _ p1
  have nap : a ≠ p := (ne_of_none p1 na).symm
  have tm2 : TermAt C H2 a t := hT [] (fun D m => by cases m) H2 (SameOff.refl _ _)
  refine ⟨_, rfl, _, _, _, _, _, rfl, .ty "bool", .base (.bl l), kit_ty (r := true) (by decide +kernel), _, rfl, iteF ?_⟩
  -- self._variable
  refine ⟨_, rfl, _, rfl, p, CD, dx, [], rfl, p2, DK.cl, DK.n1, (by show 0 < 1000; decide), ?_⟩
  generalize ez1 : putF "_variable" (.str x) [] = z1
  have c1 : z1.length ≤ 1 := by
    rw [← ez1]
    exact few (Nat.le_refl 0)
  have x1 : SameX p H2 (upd H2 p (.ins CD dx z1)) := sx_self
  have q1 : (upd H2 p (.ins CD dx z1)) p = some (.ins CD dx z1) := upd_same
  generalize upd H2 p (.ins CD dx z1) = A1 at x1 q1
  -- self._term
  refine ⟨_, rfl, _, rfl, p, CD, dx, z1, rfl, q1, DK.cl, DK.n2, by omega, ?_⟩
  generalize ez2 : putF "_term" (.ref a) z1 = z2
  have c2 : z2.length ≤ 2 := by
    rw [← ez2]
    exact few c1
  have x2 : SameX p H2 (upd A1 p (.ins CD dx z2)) := sx_upd x1
  have q2 : (upd A1 p (.ins CD dx z2)) p = some (.ins CD dx z2) := upd_same
  generalize upd A1 p (.ins CD dx z2) = A2 at x2 q2
  -- self._late
  refine ⟨_, rfl, _, rfl, p, CD, dx, z2, rfl, q2, DK.cl, DK.n3, by omega, ?_⟩
  generalize ez3 : putF "_late" (.bl l) z2 = z3
  have c3 : z3.length ≤ 3 := by
    rw [← ez3]
    exact few c2
  have x3 : SameX p H2 (upd A2 p (.ins CD dx z3)) := sx_upd x2
  have q3 : (upd A2 p (.ins CD dx z3)) p = some (.ins CD dx z3) := upd_same
  generalize upd A2 p (.ins CD dx z3) = A3 at x3 q3
  -- self._text
  have tm3 : TermAt C A3 a t := tm2.sameX x3 p2 nap
  obtain ⟨_, _, da', v', l', qv', rv', ws', ns', hins, _⟩ := id tm3
  have t315 := text315 hf hd
  have e0 : Str.empty.length = 0 := by decide +kernel
  have e1 : (" " : Str).length = 1 := by decide +kernel
  have sm : ∀ {n : Nat}, n ≤ 1000 → n ≤ sizeLine := fun h => Nat.le_trans h (by decide)
  have ls : ∀ b : Bool, ((if b = true then "<=" else ":=" : Str)).length = 2 := fun b => by cases b <;> decide +kernel
  refine ⟨_, rfl, .inl ⟨x, rfl, sm (by omega), _, rfl, sm (by rw [Str.length_append, e0]; omega), _, rfl, sm (by rw [Str.length_append, Str.length_append, e0, e1]; omega), ?_⟩⟩
  refine ⟨_, rfl, _, rfl, ?_⟩
  have done : ∀ z : Str, z = deedText x l t → (fun H' => Q .non H') (upd A3 p (.ins CD dx (putF "_text" (.str z) z3))) := fun z hz => by
    have ez : putF "_text" (.str z) z3 = dfs x a l (deedText x l t) := by
      rw [← ez3, ← ez2, ← ez1, hz]
      rfl
    rw [ez]
    have x4 : SameX p H2 (upd A3 p (.ins CD dx (dfs x a l (deedText x l t)))) := sx_upd x3
    have q4 : (upd A3 p (.ins CD dx (dfs x a l (deedText x l t)))) p = some (.ins CD dx (dfs x a l (deedText x l t))) := upd_same
    generalize upd A3 p (.ins CD dx (dfs x a l (deedText x l t))) = A4 at x4 q4
    refine q A4 (fun b o e n => x4 b o (s2 b o (s1 b o e)) n) fun Ds hDs G sG => ?_
    have pD : p ∉ Ds := fun m => by
      obtain ⟨xs, e⟩ := hDs p m
      rw [hp] at e
      cases e
    have hDs1 : Lists Ds H1 := fun D m => let ⟨xs, e⟩ := hDs D m; ⟨xs, s1 _ _ e⟩
    have tG : TermAt C (upd G p (.ins CD dx [])) a t := hT Ds hDs1 _ fun b o e n => by
      by_cases hb : b = p
      · subst hb
        rw [upd_same, ← e, p2]
      · rw [upd_ne hb]
        exact sG b o (x4 b o e hb) n
    refine ⟨hx, dx, a, sG _ _ q4 pD, tG.sameX (fun b o e n => ?_) upd_same nap⟩
    rw [upd_ne n] at e
    exact e
  cases l with
  | true =>
    refine iteT (.inl ⟨_, rfl, by decide +kernel, _, rfl, ?_, _, rfl, ?_, _, rfl, a, da', _, rfl, hins, a, t, rfl, tm3, ⟨_, rfl⟩, .inl ⟨_, rfl, sm (by omega), _, rfl, ?_, ?_⟩⟩)
    · have := ls true
      rw [if_pos rfl] at this
      exact sm (by simp only [Str.length_append, e0, e1, this]; omega)
    · have := ls true
      rw [if_pos rfl] at this
      exact sm (by simp only [Str.length_append, e0, e1, this]; omega)
    · have := ls true
      rw [if_pos rfl] at this
      exact sm (by simp only [Str.length_append, e0, e1, this]; omega)
    · exact ⟨_, rfl, p, CD, dx, z3, rfl, q3, DK.cl, DK.n4, by omega, done _ rfl⟩
  | false =>
    refine iteF (.inl ⟨_, rfl, by decide +kernel, _, rfl, ?_, _, rfl, ?_, _, rfl, a, da', _, rfl, hins, a, t, rfl, tm3, ⟨_, rfl⟩, .inl ⟨_, rfl, sm (by omega), _, rfl, ?_, ?_⟩⟩)
    · have := ls false
      rw [if_neg Bool.false_ne_true] at this
      exact sm (by simp only [Str.length_append, e0, e1, this]; omega)
    · have := ls false
      rw [if_neg Bool.false_ne_true] at this
      exact sm (by simp only [Str.length_append, e0, e1, this]; omega)
    · have := ls false
      rw [if_neg Bool.false_ne_true] at this
      exact sm (by simp only [Str.length_append, e0, e1, this]; omega)
    · exact ⟨_, rfl, p, CD, dx, z3, rfl, q3, DK.cl, DK.n4, by omega, done _ rfl⟩
end
end TS
namespace TS
open PySem L2
abbrev sDOf : Stmt := (inClass (top 52) 1)
theorem wrd_blank {x : Str} (h : WordOk x) : 32 ∉ x.cps.toList := fun m => by
  have := isLet_iff.mp (h.2.2 32 m)
  omega
theorem text_blank : ∀ {t : Tr}, t.fine → 32 ∉ t.text.cps.toList
  | .num n, h => fun m => by
    rw [show (Tr.num n).text = ((toString n : String) : Str) from rfl, codes_digit h.1 h.2] at m
    simp at m
    omega
  | .wd x, h => wrd_blank h
  | .ch a b c d, h => fun m => by
    rw [codes_ch] at m
    have h1 := text_blank h.1
    have h2 := text_blank h.2.1
    have h3 := text_blank h.2.2.1
    have h4 := text_blank h.2.2.2
    simp only [List.mem_cons, List.mem_append, List.not_mem_nil, or_false] at m
    rcases m with m | m | m | m | m | m | m | m | m
    · omega
    · exact h1 m
    · omega
    · exact h2 m
    · omega
    · exact h3 m
    · omega
    · exact h4 m
    · omega
theorem str_app_nil (x : Str) : Str.empty ++ x = x := str_ext (by rw [codes_append]; rfl)
theorem deed_join (x : Str) (l : Bool) (t : Tr) : deedText x l t = Txt.join " " [x, (if l = true then "<=" else ":=" : Str), t.text] := by
  rw [TL.join_eq]
  unfold deedText
  rw [str_app_nil]
  refine str_ext ?_
  show _ = (x ++ " " ++ ((if l = true then "<=" else ":=" : Str) ++ " " ++ t.text)).cps.toList
  simp only [codes_append, List.append_assoc]
theorem deed_split {x : Str} {l : Bool} {t : Tr} (hx : WordOk x) (hf : t.fine) : Txt.split (deedText x l t) " " = [x, (if l = true then "<=" else ":=" : Str), t.text] := by
  rw [deed_join]
  refine TL.split_join (s := 32) (S := []) (by decide +kernel) (by decide +kernel) (by simp) fun p hp => ?_
  simp only [List.mem_cons, List.not_mem_nil, or_false] at hp
  rcases hp with rfl | rfl | rfl
  · exact wrd_blank hx
  · cases l <;> decide +kernel
  · exact text_blank hf
theorem deed_len {x : Str} {l : Bool} {t : Tr} (hx : WordOk x) (hf : t.fine) (hd : t.deep ≤ 3) : (deedText x l t).length ≤ 400 := by
  have h1 : x.length ≤ 8 := hx.2.1
  have h2 := text315 hf hd
  have e0 : Str.empty.length = 0 := by decide +kernel
  have e1 : (" " : Str).length = 1 := by decide +kernel
  have ls : ((if l = true then "<=" else ":=" : Str)).length = 2 := by cases l <;> decide +kernel
  unfold deedText
  simp only [Str.length_append, e0, e1, ls]
  omega
section
variable {P : Program} {w : World} {K : PySem.W.Frag} {mg : Str → Option Value} {base : Heap}
/-- the class Deed, made by its __init__ with late given by name -/
def HasDeed (P : Program) (w : World) (K : PySem.W.Frag) (mg : Str → Option Value) (base : Heap) (CD C : Addr) : Prop :=
  ∃ (f : Addr) (fd : FuncData) (g : List Value → List Value → List Value), Mk K CD f ∧ KBn K fd ["self", "variable", "term", "late"] 3 ["late"] g (fun vs zs => vs ++ zs) ∧ FnOk P w K mg base CX0 14 f fd ["self", "variable", "term", "late"] (spDInit CD C)
/-- a Deed made, once its places are known -/
theorem deed_at {CD C : Addr} {H : Hp} {x : Str} {y : V} {l : Bool} {t : Tr} {Z : VK} {E : XK} (hx : WordOk x) (hm : Makes C H y t) (hf : t.fine) (hd : t.deep ≤ 3) {a dx : Addr} (na : H a = none) (nd : H dx = none) (ne : dx ≠ a)
    (q : ∀ H', Same H H' → (∀ Ds, Lists Ds H → ∀ G, SameOff Ds H' G → DeedAt CD C G a x l t) → Z .non H') : spDInit CD C [.ref a, .str x, y, .bl l] (upd (upd H dx (.own a)) a (.ins CD dx [])) Z E := by
  have s0 : Same H (upd (upd H dx (.own a)) a (.ins CD dx [])) := fun b o e => by
    rw [upd_ne (ne_of_none e na), upd_ne (ne_of_none e nd)]
    exact e
  exact ⟨a, dx, x, y, l, t, rfl, upd_same, hx, hm.same s0, hf, hd, fun H' sx ht => q H' (fun b o e => sx b o (s0 b o e) (ne_of_none e na)) fun Ds hDs => ht Ds fun D m => let ⟨xs, e⟩ := hDs D m; ⟨xs, s0 _ _ e⟩⟩
def spDOf (CD C : Addr) : Sp := fun vs H Q _ => ∃ (x : Str) (l : Bool) (t : Tr), vs = [.str (deedText x l t)] ∧ WordOk x ∧ t.fine ∧ t.deep ≤ 3 ∧
  ∀ H' a, Same H H' → H a = none → (∀ Ds, Lists Ds H → ∀ G, SameOff Ds H' G → DeedAt CD C G a x l t) → Q (.ref a) H'
abbrev nmDOf : List Str := ["text", "words"]
theorem scDOf : FnScope nmDOf ["text"] (defScope sDOf) := ⟨rfl, rfl, rfl, by decide +kernel, rfl, by decide +kernel, by decide +kernel⟩
theorem ok_dof {C CD f : Addr} {fd : FuncData} (F : Fun K "of" "Deed.of" sDOf f fd) (T : BltT mg) (DK : DeedK K mg CD) (DD : HasDeed P w K mg base CD C) : FnOk P w K mg base CX0 16 f fd ["text"] (spDOf CD C) := by
  obtain ⟨f1, fd1, g1, M1, b1, G1⟩ := DD
  obtain ⟨tO, mO⟩ := DK.once
  obtain ⟨tE, mE⟩ := DK.late
  refine F.ok scDOf (fun vs H Q E h => ?_) (fun cdv A outer s H vs Q E hr h => ?_)
  · obtain ⟨x, l, t, rfl, _⟩ := h
    rfl
  obtain ⟨x, l, t, rfl, hx, hf, hd, q⟩ := h
  refine ⟨_, pss_cons (ps_set (i := 1) scDOf.nd rfl (.inl rfl) (pe_ifExp (pt_val (pe_callB call_isi (by rfl) T.isi bIsi (pa_cons (pv 0) (pa_cons (pe_bltn (by rfl) T.str (v := .ty "str") (by decide +kernel) rfl) pa_nil)))) (pe_split (pv 0) pe_str) (pe_lst pa_nil)))
    (pss_cons (ps_if (PW.pt (pw_or (pt_cmpR op_ne (pe_callB call_len_seq (by rfl) T.len PySem.boot_len (pa_cons (pv 1) pa_nil)) pe_int (nomark _))
        (pw_or1 (pt_cmpR op_notIn_seq (pe_ix ix_list (pv 1) pe_int (fun _ _ => rfl)) (pe_tup (pa_cons (pe_glob rfl mO (show RelV (.str ":=") (.str ":=" tO) from ⟨_, rfl⟩)) (pa_cons (pe_glob rfl mE (show RelV (.str "<=") (.str "<=" tE) from ⟨_, rfl⟩)) pa_nil))) (by rfl))))) (pss_one ps_dead) pss_nil)
    (pss_one (ps_try_thru0 (pss_one (ps_ret (pe_makeK M1 G1 hr rfl DK.mgC b1 pass0 (pa_cons (pe_ix ix_list (pv 1) pe_int (fun _ _ => rfl)) (pa_cons (pe_ix ix_list (pv 1) pe_int (fun _ _ => rfl)) pa_nil)) (pk_cons (pe_cmpR op_eq (pe_ix ix_list (pv 1) pe_int (fun _ _ => rfl)) (pe_glob rfl mE (show RelV (.str "<=") (.str "<=" tE) from ⟨_, rfl⟩)) (nomark _)) pk_nil))))))), ?_⟩
  have len := deed_len (l := l) hx hf hd
  refine ⟨_, rfl, _, _, _, _, _, rfl, .ty "str", .base (.str _), kit_ty (r := true) (by decide +kernel), _, rfl, iteT ?_⟩
  refine ⟨_, rfl, ⟨_, rfl⟩, _, _, rfl, rfl, by decide +kernel, Nat.le_trans (m := 1000) (by omega) (by decide), fun lw hlw => ?_⟩
  rw [deed_split hx hf]
  have s1 : Same H (upd H lw (.lst ([x, (if l = true then "<=" else ":=" : Str), t.text].map V.str))) := same_upd hlw _
  have v1 : (upd H lw (.lst ([x, (if l = true then "<=" else ":=" : Str), t.text].map V.str))) lw = some (.lst [.str x, .str (if l = true then "<=" else ":=" : Str), .str t.text]) := upd_same
  generalize upd H lw (.lst ([x, (if l = true then "<=" else ":=" : Str), t.text].map V.str)) = H1 at s1 v1
  refine ⟨_, rfl, lw, _, rfl, .inl (SqL.of v1), rfl, _, rfl, ?_⟩
  refine iteF ?_
  refine ⟨_, rfl, lw, _, _, _, rfl, rfl, SqL.of v1, atI_nat (j := 1) rfl, by show 2 ≤ sizeLine; decide, fun tp htp => ?_⟩
  have s2 : Same H1 (upd H1 tp (.tup [.str ":=", .str "<="])) := same_upd htp _
  have v2 : (upd H1 tp (.tup [.str ":=", .str "<="])) tp = some (.tup [.str ":=", .str "<="]) := upd_same
  generalize upd H1 tp (.tup [.str ":=", .str "<="]) = H2 at s2 v2
  have v12 := s2 _ _ v1
  have s02 := s1.trans s2
  refine ⟨tp, _, rfl, .inr (SqT.of v2), rfl, by decide +kernel, _, rfl, ?_⟩
  have e : inV (V.str (if l = true then "<=" else ":=" : Str)) [.str ":=", .str "<="] = true := by cases l <;> decide +kernel
  rw [e]
  refine iteF ?_
  refine ⟨_, rfl, lw, _, _, _, rfl, rfl, SqL.of v12, atI_nat (j := 0) rfl, _, rfl, lw, _, _, _, rfl, rfl, SqL.of v12, atI_nat (j := 2) rfl, ?_⟩
  refine ⟨_, rfl, lw, _, _, _, rfl, rfl, SqL.of v12, atI_nat (j := 1) rfl, rfl, rfl, rfl, fun a dx na nd ne => ?_⟩
  have el : decide (V.str (if l = true then "<=" else ":=" : Str) = V.str "<=") = l := by cases l <;> decide +kernel
  rw [el]
  exact deed_at hx (.inl rfl) hf hd na nd ne fun H3 s3 hT => ⟨rfl, q H3 a (s02.trans s3) (s02.free na) fun Ds hDs => hT Ds fun D m => let ⟨xs, e⟩ := hDs D m; ⟨xs, s02 _ _ e⟩⟩
end
end TS
namespace TS
open PySem L2
section
variable {P : Program} {w : World} {K : PySem.W.Frag} {mg : Str → Option Value} {base : Heap}
/-- [e for x in list], e a call that leaves all as it is -/
theorem lc_eachL {α : Type} (R : Hp → V → α → Prop) {p D : Addr} {xs : List V} {ts : List α} {k : Nat} {te : TE} {σ : St} {H : Hp} {Qd : Hp → Prop} (hp : H p = some (.lst xs)) (hl : ts.length = xs.length) (h6 : xs.length ≤ 1000) (hD : H D = none)
    (hw : ∀ v, wipe ((wipe σ [k]).set k v) [k] = wipe σ [k])
    (step : ∀ (i : Nat) (x : V) (t : α) (H1 : Hp) (G : VK), xs[i]? = some x → ts[i]? = some t → Same H H1 → Lists [D] H1 → (∀ (y : V) H2, Same H1 H2 → (∀ H3, SameOff [D] H2 H3 → R H3 y t) → G y H2) → te ((wipe σ [k]).set k (some x)) H1 G)
    (hd : ∀ H1 ys, Same H H1 → H1 D = some (.lst ys) → Each R H1 ys ts → Qd H1) :
    ∃ W : Nat → Nat → Hp → Prop, (∃ m, W 0 m (upd H D (.lst []))) ∧ ∀ i m H, W i m H →
      ((Itl K p).stop i H ∧ Qd H) ∨ ((Itl K p).go i H ∧ ∃ Nx : Hp → Prop, (∀ H', Nx H' → ∃ m', m' < m ∧ W (i + 1) m' H') ∧ ∀ x H', (Itl K p).yld i H x H' → gName k x (wipe σ [k]) H' fun σ2 H2 => wipe σ2 [k] = wipe σ [k] ∧ tYes σ2 H2 fun b H3 =>
        if b = true then te σ2 H3 fun y H4 => ∃ acc, H4 D = some (.lst acc) ∧ acc.length < sizeLine ∧ Nx (upd H4 D (.lst (acc ++ [y]))) else Nx H3) := by
  refine lc_list (K := K) (a := p) (xs := xs) (fun i H1 => Same H H1 ∧ ∃ ys, H1 D = some (.lst ys) ∧ Each (fun G v t => ∀ H3, SameOff [D] G H3 → R H3 v t) H1 ys (ts.take i)) ⟨same_upd hD _, [], upd_same, Each.nil⟩ (fun i H1 _ z => SqL.of (z.1 _ _ hp)) (fun i x H1 hx z => ?_) (fun H1 z => ?_)
  · obtain ⟨s1, ys, d1, e1⟩ := z
    have hi : i < xs.length := (List.getElem?_eq_some_iff.mp hx).1
    have ht : ts[i]? = some ts[i] := List.getElem?_eq_getElem (by omega)
    refine ⟨hw _, ?_⟩
    unfold tYes
    dsimp only
    rw [if_pos rfl]
    refine step i x ts[i] H1 _ hx ht s1 (fun b m => by rw [List.mem_singleton.mp m]; exact ⟨ys, d1⟩) fun y H2 s2 r2 => ?_
    refine ⟨ys, s2 _ _ d1, ?_, ?_⟩
    · have := e1.1
      rw [List.length_take] at this
      exact small1000 (by omega)
    · refine ⟨fun b o q => ?_, ys ++ [y], upd_same, ?_⟩
      · rw [upd_ne (ne_of_none q hD)]
        exact s2 _ _ (s1 _ _ q)
      · have e2 : Each (fun G v t => ∀ H3, SameOff [D] G H3 → R H3 v t) (upd H2 D (.lst (ys ++ [y]))) (ys ++ [y]) (ts.take i ++ [ts[i]]) :=
          ((e1.imp fun v t h H3 s3 => h H3 ((Same.off s2).trans s3)).snoc (R := fun G v t => ∀ H3, SameOff [D] G H3 → R H3 v t) (H := H2) r2).imp fun v t h H3 s3 => h H3 ((off_upd (SameOff.refl _ _) (by simp)).trans s3)
        rw [List.take_succ, ht]
        exact e2
  · obtain ⟨s1, ys, d1, e1⟩ := z
    rw [List.take_of_length_le (by omega)] at e1
    exact hd H1 ys s1 d1 (e1.imp fun v t h => h H1 (SameOff.refl _ _))
theorem each_of {φ : V → Tr → Prop} : ∀ (ys : List V), (∀ y ∈ ys, ∃ t, φ y t) → ∃ ts : List Tr, ys.length = ts.length ∧ ∀ (i : Nat) y t, ys[i]? = some y → ts[i]? = some t → φ y t
  | [], _ => ⟨[], rfl, fun i y t h => by simp at h⟩
  | y :: r, h => by
    obtain ⟨ts, e, hx⟩ := each_of r fun z hz => h z (by simp [hz])
    obtain ⟨t, p⟩ := h y (by simp)
    refine ⟨t :: ts, by simp [e], fun i y' t' a b => ?_⟩
    cases i with
    | zero =>
      simp at a b
      subst a b
      exact p
    | succ i =>
      simp at a b
      exact hx i y' t' a b
end
end TS
namespace TS
open PySem PySem.Spec PyProof.Rows L2
/-! len of a set of texts -/
def rLenSet (P : Program) (w : World) : List V → Hp → VK → Prop := fun xs H Q => ∃ (a : Addr) (ks : List Str), xs = [.ref a] ∧ H a = some (SetS P w a ks) ∧ Q (.int ks.length) H
theorem call_lenS {X : Cx} : CallR X (.builtin "len") (rLenSet X.prog X.w) := by
  intro pins s σ H xs us Q I r h
  obtain ⟨a, ks, rfl, e, q⟩ := h
  rw [Vals.ref1 r]
  obtain ⟨o, es, ep, t, js, ho, ex, hd, pr, pm, nd, sz, fit, _⟩ := (show SetX (PySem.strKind X.prog X.w) s.heap a ks from (I.hok a _ e).1)
  have l : es.size = ks.length := by
    rw [← pm.length_eq, ← paired_len pr, Array.length_toList]
  have b : scanBound < 2 ^ 63 := by decide
  refine call_len_set ho ex hd fit (by omega) ?_
  rw [l]
  exact ⟨.int ks.length, H, I.tok _, ⟨_, rfl⟩, q⟩
end TS
namespace TS
open PySem L2
abbrev sUnlike : Stmt := top 22
abbrev sUnlikeW : Stmt := top 23
theorem TyX.sameX0 {K : PySem.W.Frag} {H H' : Hp} {v : V} {t : Value} (h : TyX K H v t) (s : Same H H') : TyX K H' v t := by
  cases h with
  | base h =>
    refine .base ?_
    cases h with
    | non => exact .non
    | bl x => exact .bl x
    | int i => exact .int i
    | str x => exact .str x
    | flt x => exact .flt x
    | lst h => exact .lst (s _ _ h)
    | frz h => exact .frz (s _ _ h)
    | tup h => exact .tup (s _ _ h)
    | dK h => exact .dK (s _ _ h)
    | dT h => exact .dT (s _ _ h)
    | ins h a b c d e => exact .ins (s _ _ h) a b c d e
  | byt b => exact .byt b
  | set h => exact .set (s _ _ h)
  | kList a b => exact .kList a b
  | kTuple a b => exact .kTuple a b
  | kDict a b => exact .kDict a b
  | fTuple h => exact .fTuple (s _ _ h)
  | fDict h => exact .fDict (s _ _ h)
section
variable {P : Program} {w : World} {K : PySem.W.Frag} {mg : Str → Option Value} {base : Heap}
/-- a list or a tuple -/
def RowAt (H : Hp) (q : Addr) (xs : List V) : Prop := H q = some (.lst xs) ∨ H q = some (.tup xs)
theorem RowAt.same {H H' : Hp} {q : Addr} {xs : List V} (h : RowAt H q xs) (s : Same H H') : RowAt H' q xs := h.imp (s _ _) (s _ _)
def spIsRow (K : PySem.W.Frag) : Sp := fun vs H Q _ => ∃ (v : V) (ty : Value) (b : Bool), vs = [v] ∧ TyX K H v ty ∧ PySem.W.kitAny K ty [.type "list", .type "tuple"] = some b ∧ ∀ H', Same H H' → Q (.bl b) H'
theorem scIsRow : FnScope ["value"] ["value"] (defScope sIsRow) := ⟨rfl, rfl, rfl, by decide +kernel, rfl, by decide +kernel, by decide +kernel⟩
theorem ok_isrow {f : Addr} {fd : FuncData} (F : Fun K "is_row" "is_row" sIsRow f fd) (T : BltT mg) (ml : mg "list" = none) : FnOk P w K mg base CX0 1 f fd ["value"] (spIsRow K) := by
  refine F.ok scIsRow (fun vs H Q E h => ?_) (fun cdv A outer s H vs Q E hr h => ?_)
  · obtain ⟨v, ty, b, rfl, _⟩ := h
    rfl
  obtain ⟨v, ty, b, rfl, hty, hk, q⟩ := h
  refine ⟨_, pss_one (ps_ret (pe_callB call_isiT (by rfl) T.isi bIsi (pa_cons (pv 0) (pa_cons (pe_tup (pa_cons (pe_bltn (by rfl) ml (v := .ty "list") (by decide +kernel) rfl) (pa_cons (pe_bltn (by rfl) T.tup (v := .ty "tuple") (by decide +kernel) rfl) pa_nil))) pa_nil)))), ?_⟩
  refine ⟨_, rfl, by show 2 ≤ sizeLine; decide, fun tp htp => ?_⟩
  have s1 : Same H (upd H tp (.tup [.ty "list", .ty "tuple"])) := same_upd htp _
  exact ⟨_, tp, _, _, _, _, rfl, upd_same, .cons (.ty "list") (.cons (.ty "tuple") .nil), TyX.sameX0 hty s1, hk, q _ s1⟩
/-- a row of one to so many items -/
def spShort : Sp := fun vs H Q _ => ∃ (q : Addr) (xs : List V) (m : Nat), vs = [.ref q, .int m] ∧ RowAt H q xs ∧ 1 ≤ xs.length ∧ xs.length ≤ m ∧ ∀ H', Same H H' → Q (.bl true) H'
theorem scShort : FnScope ["value", "most"] ["value", "most"] (defScope sShort) := ⟨rfl, rfl, rfl, by decide +kernel, rfl, by decide +kernel, by decide +kernel⟩
theorem RowAt.ty {H : Hp} {q : Addr} {xs : List V} (h : RowAt H q xs) : ∃ ty, TyX K H (.ref q) ty ∧ PySem.W.kitAny K ty [.type "list", .type "tuple"] = some true := by
  rcases h with h | h
  · exact ⟨_, .base (.lst h), by kernel_rfl⟩
  · exact ⟨_, .base (.tup h), by kernel_rfl⟩
theorem ok_short {f : Addr} {fd : FuncData} (F : Fun K "is_short_row" "is_short_row" sShort f fd) (T : BltT mg) (D1 : Has P w K mg base "is_row" 1 ["value"] (spIsRow K)) : FnOk P w K mg base CX0 2 f fd ["value", "most"] spShort := by
  obtain ⟨f1, fd1, m1, k1, b1, G1⟩ := D1
  refine F.ok scShort (fun vs H Q E h => ?_) (fun cdv A outer s H vs Q E hr h => ?_)
  · obtain ⟨q, xs, m, rfl, _⟩ := h
    rfl
  obtain ⟨q, xs, m, rfl, hx, h1, hm, hq⟩ := h
  refine ⟨_, pss_one (ps_ret (pe_and (pe_call G1 hr rfl m1 k1 b1 .nil pass0 (pa_cons (pv 0) pa_nil)) (pe_one (pe_chain op_le op_le pe_int (pe_callB call_len_seq (by rfl) T.len PySem.boot_len (pa_cons (pv 0) pa_nil)) (pv 1))))), ?_⟩
  obtain ⟨ty, hty, hk⟩ := hx.ty (K := K)
  refine ⟨_, rfl, .ref q, ty, true, rfl, hty, hk, fun H1 s1 => ?_⟩
  have e1 : decide ((1 : Int) ≤ (xs.length : Nat)) = true := decide_eq_true (by omega)
  have e2 : decide (((xs.length : Nat) : Int) ≤ (m : Nat)) = true := decide_eq_true (by omega)
  refine ⟨_, rfl, iteT ⟨_, rfl, q, xs, rfl, (hx.same s1).imp SqL.of SqT.of, _, _, rfl, rfl, _, rfl, ?_⟩⟩
  rw [e1]
  refine iteT ⟨_, rfl, _, _, rfl, rfl, ?_⟩
  show Q (.bl (decide (((xs.length : Nat) : Int) ≤ (m : Nat)))) H1
  rw [e2]
  exact hq H1 s1
/-! are_unlike, are_unlike_words: of lists of unlike words -/
theorem fold_nodup {κ : Type} [DecidableEq κ] : ∀ (l acc : List κ), l.Nodup → (∀ x ∈ l, x ∉ acc) → (l.foldl put1 acc).length = acc.length + l.length
  | [], acc, _, _ => rfl
  | k :: r, acc, h, ha => by
    rw [List.nodup_cons] at h
    have e : put1 acc k = k :: acc := by
      unfold put1
      rw [if_neg (ha k (by simp))]
    rw [List.foldl_cons, e, fold_nodup r _ h.2 (fun x hx m => ?_)]
    · simp only [List.length_cons]
      omega
    · rcases List.mem_cons.mp m with rfl | m
      · exact h.1 hx
      · exact ha x (by simp [hx]) m
theorem once_nodup {κ : Type} [DecidableEq κ] {l : List κ} (h : l.Nodup) : (once l).length = l.length := by
  unfold once
  rw [fold_nodup l [] h (by simp)]
  simp
def spUnlike : Sp := fun vs H Q _ => ∃ (q : Addr) (ss : List Str), vs = [.ref q] ∧ H q = some (.lst (ss.map V.str)) ∧ ss.Nodup ∧ ss.length < 64 ∧ ∀ H', Same H H' → Q (.bl true) H'
theorem scUnlike : FnScope ["words"] ["words"] (defScope sUnlike) := ⟨rfl, rfl, rfl, by decide +kernel, rfl, by decide +kernel, by decide +kernel⟩
theorem ok_unlike {f : Addr} {fd : FuncData} (F : Fun K "are_unlike" "are_unlike" sUnlike f fd) (T : BltT mg) : FnOk P w K mg base CX0 1 f fd ["words"] spUnlike := by
  refine F.ok scUnlike (fun vs H Q E h => ?_) (fun cdv A outer s H vs Q E hr h => ?_)
  · obtain ⟨q, ss, rfl, _⟩ := h
    rfl
  obtain ⟨q, ss, rfl, hq, nd, h64, k⟩ := h
  refine ⟨_, pss_one (ps_ret (pe_cmpR op_eq (pe_callB call_lenS (by rfl) T.len PySem.boot_len (pa_cons (pe_callTy (cr_setL (by rfl)) (by rfl) T.set (by decide +kernel) (pa_cons (pv 0) pa_nil)) pa_nil)) (pe_callB call_len_seq (by rfl) T.len PySem.boot_len (pa_cons (pv 0) pa_nil)) (nomark _))), ?_⟩
  refine ⟨_, rfl, q, _, rfl, .of hq, (by rw [List.length_map]; show ss.length + 1 < 4096; omega), .inl ⟨ss, rfl, fun p hp => ?_⟩⟩
  have s1 : Same H (upd H p (SetS P w p (once ss))) := same_upd hp _
  refine ⟨p, once ss, rfl, upd_same, _, rfl, q, _, rfl, .inl (SqL.of (s1 _ _ hq)), rfl, ?_⟩
  rw [once_nodup nd, List.length_map, decide_eq_true rfl]
  exact k _ s1
def spUnlikeW : Sp := fun vs H Q _ => ∃ (q : Addr) (ss : List Str) (m : Nat), vs = [.ref q, .int m] ∧ H q = some (.lst (ss.map V.str)) ∧ (∀ x ∈ ss, WordOk x) ∧ ss.Nodup ∧ 1 ≤ ss.length ∧ ss.length ≤ m ∧ m < 64 ∧ ∀ H', Same H H' → Q (.bl true) H'
abbrev nmUnlikeW : List Str := ["value", "most", "item"]
theorem scUnlikeW : FnScope nmUnlikeW ["value", "most"] (defScope sUnlikeW) := ⟨rfl, rfl, rfl, by decide +kernel, rfl, by decide +kernel, by decide +kernel⟩
theorem ok_unlikew {f : Addr} {fd : FuncData} (F : Fun K "are_unlike_words" "are_unlike_words" sUnlikeW f fd) (T : BltT mg) (ma : mg "all" = none) (D1 : Has P w K mg base "is_short_row" 2 ["value", "most"] spShort) (D2 : Has P w K mg base "is_word" 1 ["value"] (spIsWord K)) (D3 : Has P w K mg base "are_unlike" 1 ["words"] spUnlike) :
    FnOk P w K mg base CX0 3 f fd ["value", "most"] spUnlikeW := by
  obtain ⟨f1, fd1, m1, k1, b1, G1⟩ := D1
  obtain ⟨f2, fd2, m2, k2, b2, G2⟩ := D2
  obtain ⟨f3, fd3, m3, k3, b3, G3⟩ := D3
  refine F.ok scUnlikeW (fun vs H Q E h => ?_) (fun cdv A outer s H vs Q E hr h => ?_)
  · obtain ⟨q, ss, m, rfl, _⟩ := h
    rfl
  obtain ⟨q, ss, m, rfl, hq, wok, nd, h1, hm, h64, k⟩ := h
  have r1 : Room 1 _ := hr.mono (by decide)
  refine ⟨_, pss_cons (ps_if (PW.pt (pw_or (pt_not (pt_val (pe_call G1 hr rfl m1 k1 b1 .nil pass0 (pa_cons (pv 0) (pa_cons (pv 1) pa_nil))))) (pw_or1 (pt_not (pt_val (pe_callB (cr_all rfl) (by rfl) ma (by decide +kernel) (pa_cons
      (pe_lc (own := [("item", 2)]) (g := gName 2) (tt := tYes) (by rfl) scUnlikeW.nd (pi_list (pv 0)) (blkOk_by (own := [("item", 2)]) (N := nmUnlikeW) (sc := defScope sUnlikeW) (by decide +kernel)) (fun _ _ _ _ _ => pg_name (i := 2) scUnlikeW.nd rfl (Or.inl rfl)) (fun _ _ _ _ _ => pts_nil)
        (fun _ _ _ _ _ => pe_call G2 r1 rfl m2 k2 b2 .nil pass0 (pa_cons (pv 2) pa_nil))) pa_nil))))))) (pss_one (ps_ret pe_bl)) pss_nil)
    (pss_one (ps_ret (pe_call G3 r1 rfl m3 k3 b3 .nil pass0 (pa_cons (pv 0) pa_nil)))), ?_⟩
  have hl : (ss.map V.str).length = ss.length := List.length_map _
  refine ⟨_, rfl, _, rfl, q, _, m, rfl, .inl hq, by omega, by omega, fun H1 s1 => ⟨_, rfl, iteF ?_⟩⟩
  refine ⟨_, rfl, q, rfl, ⟨_, SqL.of (s1 _ _ hq)⟩, fun D hD => lc_eachL (K := K) (fun _ v (_ : Str) => v = .bl true) (ts := ss) (s1 _ _ hq) hl.symm (by omega) hD (fun _ => rfl) (fun i v x H2 G hv hx s2 hL hG => ?_) (fun H2 ys s2 d2 e2 => ?_)⟩
  · rw [List.getElem?_map, hx] at hv
    cases hv
    refine ⟨_, rfl, .str x, rfl, .inl ⟨x, rfl, ?_, fun H3 s3 => ?_⟩⟩
    · have := (wok x (List.mem_of_getElem? hx)).2.1
      omega
    · rw [wordOk_iff.mpr (wok x (List.mem_of_getElem? hx))]
      exact hG _ H3 s3 fun H4 s4 => rfl
  · have ey : ys = (List.replicate ys.length true).map V.bl := by
      refine List.ext_getElem? fun i => ?_
      rw [List.getElem?_map, List.getElem?_replicate]
      by_cases c : i < ys.length
      · rw [if_pos c, List.getElem?_eq_getElem c]
        have ht : ss[i]? = some (ss[i]'(by rw [← e2.1]; exact c)) := List.getElem?_eq_getElem _
        have := e2.2 i _ _ (List.getElem?_eq_getElem c) ht
        rw [this]
        rfl
      · rw [if_neg c, List.getElem?_eq_none (by omega)]
        rfl
    rw [ey] at d2
    refine ⟨D, _, rfl, SqL.of d2, _, rfl, ?_⟩
    have ea : (List.replicate ys.length true).all id = true := by simp
    rw [ea]
    refine iteF ⟨_, rfl, q, ss, rfl, s2 _ _ (s1 _ _ hq), nd, by omega, fun H3 s3 => k H3 ((s1.trans s2).trans s3)⟩
end
end TS
namespace TS
open PySem L2
abbrev sDeedOf : Stmt := top 53
abbrev sDeedsOf : Stmt := top 54
abbrev sDStr : Stmt := (inClass (top 52) 2)
abbrev sDVar : Stmt := (inClass (top 52) 4)
abbrev sDTerm : Stmt := (inClass (top 52) 5)
/-- what a Deed is made of -/
structure DeedD where
  x : Str
  l : Bool
  t : Tr
def DeedD.Ok (d : DeedD) : Prop := WordOk d.x ∧ d.t.fine ∧ d.t.deep ≤ 3
def DeedD.text (d : DeedD) : Str := deedText d.x d.l d.t
abbrev DAt (CD C : Addr) (H : Hp) (a : Addr) (d : DeedD) : Prop := DeedAt CD C H a d.x d.l d.t
theorem DeedAt.ok {CD C a : Addr} {H : Hp} {d : DeedD} (h : DAt CD C H a d) : d.Ok := by
  obtain ⟨hw, dx, p, e, ht⟩ := h
  exact ⟨hw, ht.fine, ht.deep⟩
section
variable {P : Program} {w : World} {K : PySem.W.Frag} {mg : Str → Option Value} {base : Heap}
structure DeedT (K : PySem.W.Frag) (mg : Str → Option Value) (CD : Addr) : Prop extends DeedK K mg CD where
  ha : PySem.W.findIn K (.ref CD) "__class__" = some (some (.builtin "object.__class__"))
  hn : PySem.W.specialIn K (.builtin "object.__class__") "__get__" = some (some (.builtin "getset_descriptor.__get__"))
  htk : PySem.W.takesIn K (.builtin "object.__class__") = some true
  hm : PySem.W.mroIn K CD (.type "object") = some true
  kD : PySem.W.kitOne K (.ref CD) (.ref CD) = some true
  kStr : PySem.W.kitOne K (.type "str") (.ref CD) = some false
theorem DeedT.ty {CD a dx : Addr} {H : Hp} {fs : List (Str × V)} (T : DeedT K mg CD) (h : H a = some (.ins CD dx fs)) : TyX K H (.ref a) (.ref CD) := .base (.ins h T.cl T.ha T.hn T.htk T.hm)
def spDStr (CD C : Addr) : Sp := fun vs H Q _ => ∃ (a : Addr) (d : DeedD), vs = [.ref a] ∧ DAt CD C H a d ∧ Q (.str d.text) H
theorem scDStr : FnScope ["self"] ["self"] (defScope sDStr) := ⟨rfl, rfl, rfl, by decide +kernel, rfl, by decide +kernel, by decide +kernel⟩
theorem ok_dstr {C CD f : Addr} {fd : FuncData} (F : Fun K "__str__" "Deed.__str__" sDStr f fd) (T : BltT mg) (DK : DeedK K mg CD) : FnOk P w K mg base CX0 1 f fd ["self"] (spDStr CD C) := by
  refine F.ok scDStr (fun vs H Q E h => ?_) (fun cdv A outer s H vs Q E hr h => ?_)
  · obtain ⟨a, d, rfl, _⟩ := h
    rfl
  obtain ⟨a, d, rfl, hd, q⟩ := h
  refine ⟨_, pss_one (ps_ret (pe_callTy SkE.call_str_str (by rfl) T.str (by decide +kernel) (pa_cons (pe_fld (pv 0) rfl) pa_nil))), ?_⟩
  obtain ⟨hw, dx, p, e, ht⟩ := hd
  exact ⟨_, rfl, a, CD, dx, _, _, rfl, e, DK.cl, DK.n4, dfs_text _ _ _ _, _, rfl, q⟩
def spDVar (CD C : Addr) : Sp := fun vs H Q _ => ∃ (a : Addr) (d : DeedD), vs = [.ref a] ∧ DAt CD C H a d ∧ Q (.str d.x) H
theorem scDVar : FnScope ["self"] ["self"] (defScope sDVar) := ⟨rfl, rfl, rfl, by decide +kernel, rfl, by decide +kernel, by decide +kernel⟩
theorem ok_dvar {C CD f : Addr} {fd : FuncData} (F : Fun K "variable" "Deed.variable" sDVar f fd) (DK : DeedK K mg CD) : FnOk P w K mg base CX0 1 f fd ["self"] (spDVar CD C) := by
  refine F.ok scDVar (fun vs H Q E h => ?_) (fun cdv A outer s H vs Q E hr h => ?_)
  · obtain ⟨a, d, rfl, _⟩ := h
    rfl
  obtain ⟨a, d, rfl, hd, q⟩ := h
  refine ⟨_, pss_one (ps_ret (pe_fld (pv 0) rfl)), ?_⟩
  obtain ⟨hw, dx, p, e, ht⟩ := hd
  exact ⟨_, rfl, a, CD, dx, _, _, rfl, e, DK.cl, DK.n1, dfs_var _ _ _ _, q⟩
def spDTerm (CD C : Addr) : Sp := fun vs H Q _ => ∃ (a : Addr) (d : DeedD), vs = [.ref a] ∧ DAt CD C H a d ∧ ∀ p, TermAt C H p d.t → Q (.ref p) H
theorem scDTerm : FnScope ["self"] ["self"] (defScope sDTerm) := ⟨rfl, rfl, rfl, by decide +kernel, rfl, by decide +kernel, by decide +kernel⟩
theorem ok_dterm {C CD f : Addr} {fd : FuncData} (F : Fun K "term" "Deed.term" sDTerm f fd) (DK : DeedK K mg CD) : FnOk P w K mg base CX0 1 f fd ["self"] (spDTerm CD C) := by
  refine F.ok scDTerm (fun vs H Q E h => ?_) (fun cdv A outer s H vs Q E hr h => ?_)
  · obtain ⟨a, d, rfl, _⟩ := h
    rfl
  obtain ⟨a, d, rfl, hd, q⟩ := h
  refine ⟨_, pss_one (ps_ret (pe_fld (pv 0) rfl)), ?_⟩
  obtain ⟨hw, dx, p, e, ht⟩ := hd
  exact ⟨_, rfl, a, CD, dx, _, _, rfl, e, DK.cl, DK.n2, dfs_term _ _ _ _, q p ht⟩
/-- Deed.of reached off the class -/
def HasDOf (P : Program) (w : World) (K : PySem.W.Frag) (mg : Str → Option Value) (base : Heap) (CD C : Addr) : Prop :=
  ∃ (mc : Value) (p g : Addr) (fd : FuncData), SMet K CD mc "of" p g ∧ Binds K fd ["text"] [] ∧ FnOk P w K mg base CX0 16 g fd ["text"] (spDOf CD C)
/-- a deed is handed in as itself or as its text -/
def MakesD (CD C : Addr) (H : Hp) (v : V) (d : DeedD) : Prop := (v = .str d.text ∧ d.Ok) ∨ ∃ a, v = .ref a ∧ DAt CD C H a d
theorem MakesD.same {CD C : Addr} {H H' : Hp} {v : V} {d : DeedD} (h : MakesD CD C H v d) (s : Same H H') : MakesD CD C H' v d := by
  rcases h with h | ⟨a, e, h⟩
  · exact .inl h
  · exact .inr ⟨a, e, h.same s⟩
theorem MakesD.ok {CD C : Addr} {H : Hp} {v : V} {d : DeedD} (h : MakesD CD C H v d) : d.Ok := by
  rcases h with h | ⟨a, e, h⟩
  · exact h.2
  · exact DeedAt.ok h
/-- a Deed that stays one whatever some lists hold -/
def DOff (CD C : Addr) (Ds : List Addr) (H : Hp) (a : Addr) (d : DeedD) : Prop := ∀ G, SameOff Ds H G → DAt CD C G a d
theorem DOff.off {CD C a : Addr} {Ds : List Addr} {H H' : Hp} {d : DeedD} (h : DOff CD C Ds H a d) (s : SameOff Ds H H') : DOff CD C Ds H' a d := fun G sG => h G (s.trans sG)
theorem DOff.now {CD C a : Addr} {Ds : List Addr} {H : Hp} {d : DeedD} (h : DOff CD C Ds H a d) : DAt CD C H a d := h H (SameOff.refl _ _)
def spDeedOf (CD C : Addr) : Sp := fun vs H Q _ => ∃ d : DeedD, vs = [.str d.text] ∧ d.Ok ∧ ∀ H' a, Same H H' → H a = none → (∀ Ds, Lists Ds H → DOff CD C Ds H' a d) → Q (.ref a) H'
theorem scDeedOf : FnScope ["value"] ["value"] (defScope sDeedOf) := ⟨rfl, rfl, rfl, by decide +kernel, rfl, by decide +kernel, by decide +kernel⟩
theorem ok_deedof {C CD f : Addr} {fd : FuncData} (F : Fun K "_deed_of" "_deed_of" sDeedOf f fd) (T : BltT mg) (DK : DeedT K mg CD) (D1 : HasDOf P w K mg base CD C) : FnOk P w K mg base CX0 17 f fd ["value"] (spDeedOf CD C) := by
  obtain ⟨mc, p, g, fd1, c, b1, G1⟩ := D1
  refine F.ok scDeedOf (fun vs H Q E h => ?_) (fun cdv A outer s H vs Q E hr h => ?_)
  · obtain ⟨d, rfl, _⟩ := h
    rfl
  obtain ⟨d, rfl, hd, q⟩ := h
  refine ⟨_, pss_cons (ps_if (pt_val (pe_callB call_isi (by rfl) T.isi bIsi (pa_cons (pv 0) (pa_cons (pe_glob rfl DK.mgC (show RelV (.ref CD) (.ref CD) from rfl)) pa_nil)))) (pss_one (ps_ret (pv 0))) pss_nil)
    (pss_one (ps_try_thru0 (pss_one (ps_ret (pe_smeth (pe_glob rfl DK.mgC (show RelV (.ref CD) (.ref CD) from rfl)) c G1 hr b1 pass0 (pa_cons (pv 0) pa_nil)))))), ?_⟩
  refine ⟨_, rfl, _, _, _, _, _, rfl, .own CD, .base (.str _), DK.kStr, _, rfl, iteF ?_⟩
  exact ⟨rfl, _, rfl, d.x, d.l, d.t, rfl, hd.1, hd.2.1, hd.2.2, fun H' a s1 na hT => q H' a s1 na fun Ds hDs G sG => hT Ds hDs G sG⟩
/-! _deeds_of, of texts -/
def spDeedsOf (CD C : Addr) : Sp := fun vs H Q _ => ∃ (q : Addr) (ds : List DeedD), vs = [.ref q] ∧ H q = some (.lst (ds.map fun d => V.str d.text)) ∧ (∀ d ∈ ds, d.Ok) ∧ 1 ≤ ds.length ∧ ds.length ≤ 4 ∧
  ∀ H' l (as : List Addr), Same H H' → H l = none → H' l = some (.lst (as.map V.ref)) → as.length = ds.length → (∀ (i : Nat) a d, as[i]? = some a → ds[i]? = some d → H a = none ∧ ∀ Ds, Lists Ds H → DOff CD C Ds H' a d) → Q (.ref l) H'
abbrev nmDeedsOf : List Str := ["values", "deeds", "value", "deed"]
theorem scDeedsOf : FnScope nmDeedsOf ["values"] (defScope sDeedsOf) := ⟨rfl, rfl, rfl, by decide +kernel, rfl, by decide +kernel, by decide +kernel⟩
theorem lists_cons {D : Addr} {Ds : List Addr} {H : Hp} (h : Lists [D] H) (g : Lists Ds H) : Lists (D :: Ds) H := fun b m => by
  rcases List.mem_cons.mp m with rfl | m
  · exact h _ (by simp)
  · exact g b m
theorem refs_of {φ : Addr → Prop} : ∀ (ys : List V), (∀ y ∈ ys, ∃ a, y = V.ref a ∧ φ a) → ∃ as : List Addr, ys = as.map V.ref ∧ ∀ a ∈ as, φ a
  | [], _ => ⟨[], rfl, by simp⟩
  | y :: r, h => by
    obtain ⟨as, e, ha⟩ := refs_of r fun z hz => h z (by simp [hz])
    obtain ⟨a, rfl, p⟩ := h y (by simp)
    exact ⟨a :: as, by rw [e]; rfl, fun b hb => by rcases List.mem_cons.mp hb with rfl | hb; exact p; exact ha b hb⟩
theorem ok_deedsof {C CD f : Addr} {fd : FuncData} (F : Fun K "_deeds_of" "_deeds_of" sDeedsOf f fd) (T : BltT mg) (m4 : ∃ t, mg "MOST_DEEDS" = some (.int 4 t)) (D1 : Has P w K mg base "is_short_row" 2 ["value", "most"] spShort) (D2 : Has P w K mg base "_deed_of" 17 ["value"] (spDeedOf CD C)) :
    FnOk P w K mg base CX0 18 f fd ["values"] (spDeedsOf CD C) := by
  obtain ⟨f1, fd1, m1, k1, b1, G1⟩ := D1
  obtain ⟨f2, fd2, m2, k2, b2, G2⟩ := D2
  obtain ⟨t4, m4⟩ := m4
  refine F.ok scDeedsOf (fun vs H Q E h => ?_) (fun cdv A outer s H vs Q E hr h => ?_)
  · obtain ⟨q, ds, rfl, _⟩ := h
    rfl
  obtain ⟨q, ds, rfl, hq, hok, h1, h4, k⟩ := h
  have r2 : Room 2 _ := hr.mono (by decide)
  refine ⟨_, pss_cons (ps_if (pt_not (pt_val (pe_call G1 r2 rfl m1 k1 b1 .nil pass0 (pa_cons (pv 0) (pa_cons (pe_glob rfl m4 (show RelV (.int 4) (.int 4 t4) from ⟨_, rfl⟩)) pa_nil))))) (pss_one (ps_ret pe_non)) pss_nil)
    (pss_cons (ps_setLc (i := 1) (own := [("value", 2)]) (g := gName 2) (tt := tYes) (by rfl) scDeedsOf.nd rfl rfl (sw_true rfl rfl rfl (by decide +kernel)) (pi_list (pv 0)) (blkOk_by (own := [("value", 2)]) (N := nmDeedsOf) (sc := defScope sDeedsOf) (by decide +kernel)) (fun _ _ _ _ _ => pg_name (i := 2) scDeedsOf.nd rfl (Or.inl rfl)) (fun _ _ _ _ _ => pts_nil)
      (fun _ _ _ _ _ => pe_call G2 hr rfl m2 k2 b2 .nil pass0 (pa_cons (pv 2) pa_nil)))
    (pss_one (ps_ret (pe_ifExp (pt_val (pe_callB (cr_any rfl) (by rfl) T.any (by decide +kernel) (pa_cons
      (pe_lc (own := [("deed", 3)]) (g := gName 3) (tt := tYes) (by rfl) scDeedsOf.nd (pi_list (pv 1)) (blkOk_by (own := [("deed", 3)]) (N := nmDeedsOf) (sc := defScope sDeedsOf) (by decide +kernel)) (fun _ _ _ _ _ => pg_name (i := 3) scDeedsOf.nd rfl (Or.inl rfl)) (fun _ _ _ _ _ => pts_nil)
        (fun _ _ _ _ _ => pe_cmpR op_isN (pv 3) pe_non (nomark _))) pa_nil))) pe_non (pv 1))))), ?_⟩
  have hl : (ds.map fun d => V.str d.text).length = ds.length := List.length_map _
  refine ⟨_, rfl, q, _, 4, rfl, .inl hq, by omega, by omega, fun H1 s1 => ⟨_, rfl, iteF ?_⟩⟩
  have hq1 := s1 _ _ hq
  refine ⟨_, rfl, q, rfl, ⟨_, SqL.of hq1⟩, fun D hD => lc_eachL (K := K) (fun G v (d : DeedD) => ∃ a, v = .ref a ∧ H a = none ∧ ∀ Ds, Lists Ds H → DOff CD C Ds G a d) (ts := ds) hq1 hl.symm (by omega) hD (fun _ => rfl) (fun i v d H2 G hv hd s2 hLs hG => ?_) (fun H2 ys s2 d2 e2 => ?_)⟩
  · rw [List.getElem?_map, hd] at hv
    cases hv
    refine ⟨_, rfl, d, rfl, hok d (List.mem_of_getElem? hd), fun H3 a s3 na hT => hG _ H3 s3 fun H4 s4 => ⟨a, rfl, (s1.trans s2).free na, fun Ds hDs G5 s5 => ?_⟩⟩
    refine hT (D :: Ds) (lists_cons hLs fun b m => let ⟨xs, e⟩ := hDs b m; ⟨xs, s2 _ _ (s1 _ _ e)⟩) G5 fun b o e n => ?_
    simp only [List.mem_cons, not_or] at n
    exact s5 b o (s4 b o e (by simpa using n.1)) n.2
  · obtain ⟨as, eas, _⟩ := refs_of (φ := fun _ => True) ys fun y hy => by
      obtain ⟨j, hj, e⟩ := List.getElem_of_mem hy
      have ht : ds[j]? = some (ds[j]'(by rw [← e2.1]; exact hj)) := List.getElem?_eq_getElem _
      obtain ⟨a, ea, _⟩ := e2.2 j y _ (by rw [← e]; exact List.getElem?_eq_getElem hj) ht
      exact ⟨a, ea, trivial⟩
    subst eas
    have la : as.length = ds.length := by
      have := e2.1
      rwa [List.length_map] at this
    refine ⟨_, rfl, D, rfl, ⟨_, SqL.of d2⟩, fun D2 hD2 => lc_list (K := K) (a := D) (xs := as.map V.ref) (fun i H3 => Same H2 H3 ∧ H3 D2 = some (.lst ((List.replicate i false).map V.bl))) ⟨same_upd hD2 _, upd_same⟩ (fun i H3 _ z => SqL.of (z.1 _ _ d2)) (fun i x H3 hx z => ?_) (fun H3 z => ?_)⟩
    · obtain ⟨s3, z3⟩ := z
      have hi : i < as.length := by
        have := (List.getElem?_eq_some_iff.mp hx).1
        rwa [List.length_map] at this
      obtain ⟨a, rfl⟩ : ∃ a, x = .ref a := by
        obtain ⟨a, _, e⟩ := List.mem_map.mp (List.mem_of_getElem? hx)
        exact ⟨a, e.symm⟩
      refine ⟨rfl, ?_⟩
      unfold tYes
      dsimp only
      rw [if_pos rfl]
      refine ⟨_, rfl, rfl, _, z3, ?_, fun b o h => ?_, ?_⟩
      · simp only [List.length_map, List.length_replicate]
        exact small1000 (by omega)
      · rw [upd_ne (ne_of_none h hD2)]
        exact s3 b o h
      · rw [upd_same, List.replicate_succ', List.map_append]
        rfl
    · obtain ⟨s3, z3⟩ := z
      refine ⟨D2, _, rfl, SqL.of z3, _, rfl, ?_⟩
      have ea : (List.replicate (as.map V.ref).length false).any id = false := by simp
      rw [ea]
      refine iteF ⟨_, rfl, k H3 D as ((s1.trans s2).trans s3) (s1.free hD) (s3 _ _ d2) la fun i a d ha hd => ?_⟩
      obtain ⟨a', e, na, hT⟩ := e2.2 i (.ref a) d (by rw [List.getElem?_map, ha]; rfl) hd
      cases e
      exact ⟨na, fun Ds hDs => (hT Ds hDs).off (Same.off s3)⟩
end
end TS
namespace TS
open PySem L2
theorem map_at {α β : Type} {f : α → β} {l : List α} {i : Nat} {y : β} (h : (l.map f)[i]? = some y) : ∃ x, l[i]? = some x ∧ y = f x := by
  rw [List.getElem?_map] at h
  cases e : l[i]? with
  | none => rw [e] at h; cases h
  | some x =>
    rw [e] at h
    exact ⟨x, rfl, by cases h; rfl⟩
/-- [y for x in list for y in f(x)], f(x) a new list -/
theorem lc_flatL {K : PySem.W.Frag} {p D : Addr} {xs : List V} {zs : List (List V)} {k k1 : Nat} {te1 : TE} {σ : St} {H : Hp} {Qd : Hp → Prop} (hp : H p = some (.lst xs)) (hl : zs.length = xs.length) (h6 : zs.flatten.length ≤ 1000) (hD : H D = none)
    (hw : ∀ v, wipe ((wipe σ [k, k1]).set k v) [k, k1] = wipe σ [k, k1])
    (hw1 : ∀ v u, wipe ((wipe ((wipe σ [k, k1]).set k v) [k1]).set k1 u) [k1] = wipe ((wipe σ [k, k1]).set k v) [k1])
    (hat : ∀ v u, ((wipe ((wipe σ [k, k1]).set k v) [k1]).set k1 (some u))[k1]? = some (some u))
    (step : ∀ (i : Nat) (x : V) (z : List V) (H1 : Hp) (R : VK), xs[i]? = some x → zs[i]? = some z → Same H H1 → (∀ (r : Addr) H2, Same H1 H2 → H1 r = none → H2 r = some (.lst z) → R (.ref r) H2) → te1 ((wipe σ [k, k1]).set k (some x)) H1 R)
    (hd : ∀ H1, Same H H1 → H1 D = some (.lst zs.flatten) → Qd H1) :
    ∃ W : Nat → Nat → Hp → Prop, (∃ m, W 0 m (upd H D (.lst []))) ∧ ∀ i m H, W i m H →
  ((Itl K p).stop i H ∧ Qd H) ∨ ((Itl K p).go i H ∧ ∃ Nx : Hp → Prop, (∀ H', Nx H' → ∃ m', m' < m ∧ W (i + 1) m' H') ∧ ∀ x H', (Itl K p).yld i H x H' → gName k x (wipe σ [k, k1]) H' fun σ2 H2 => wipe σ2 [k, k1] = wipe σ [k, k1] ∧ tYes σ2 H2 fun b H3 =>
    if b = true then iList K te1 σ2 H3 fun J1 H4 => ∃ W1 : Nat → Nat → Hp → Prop, (∃ m, W1 0 m H4) ∧ ∀ j k2 H, W1 j k2 H →
      (J1.stop j H ∧ Nx H) ∨ (J1.go j H ∧ ∃ Nx1 : Hp → Prop, (∀ H', Nx1 H' → ∃ k', k' < k2 ∧ W1 (j + 1) k' H') ∧ ∀ x H', J1.yld j H x H' → gName k1 x (wipe σ2 [k1]) H' fun σ3 H5 => wipe σ3 [k1] = wipe σ2 [k1] ∧ tYes σ3 H5 fun b H6 =>
        if b = true then tVar k1 σ3 H6 fun y H7 => ∃ acc, H7 D = some (.lst acc) ∧ acc.length < sizeLine ∧ Nx1 (upd H7 D (.lst (acc ++ [y]))) else Nx1 H6)
    else Nx H3) := by
  refine ⟨fun i m H1 => m = xs.length - i ∧ i ≤ xs.length ∧ Same H H1 ∧ H1 D = some (.lst (zs.take i).flatten), ⟨xs.length, by simp, Nat.zero_le _, same_upd hD _, by rw [upd_same]; rfl⟩, ?_⟩
  rintro i m H1 ⟨rfl, hi, s1, d1⟩
  have q : SqL K H1 p xs := SqL.of (s1 _ _ hp)
  by_cases hlt : i < xs.length
  · refine .inr ⟨⟨xs, xs[i], q, by simp [hlt]⟩, fun H' => Same H H' ∧ H' D = some (.lst (zs.take (i + 1)).flatten), fun H' p' => ⟨xs.length - (i + 1), by omega, rfl, hlt, p'⟩, fun x H' y => ?_⟩
    obtain ⟨e, y⟩ := y
    subst e
    have hx := y xs q
    have hz : zs[i]? = some zs[i] := List.getElem?_eq_getElem (by omega)
    have tk : (zs.take (i + 1)).flatten = (zs.take i).flatten ++ zs[i] := by
      have e : zs.take (i + 1) = zs.take i ++ [zs[i]] := by
        rw [List.take_succ, hz]
        rfl
      rw [e, List.flatten_append]
      simp only [List.flatten_cons, List.flatten_nil, List.append_nil]
    have ln : (zs.take i).flatten.length + zs[i].length ≤ 1000 := by
      rw [← List.length_append, ← tk]
      refine Nat.le_trans ?_ h6
      have e : zs = zs.take (i + 1) ++ zs.drop (i + 1) := (List.take_append_drop _ _).symm
      conv => rhs; rw [e, List.flatten_append, List.length_append]
      exact Nat.le_add_right _ _
    generalize zs[i] = z at hz tk ln
    refine ⟨hw _, ?_⟩
    unfold tYes
    dsimp only
    rw [if_pos rfl]
    refine step i x z _ _ hx hz s1 fun r H2 s2 hr h2 => ?_
    have rD : r ≠ D := (ne_of_none d1 hr).symm
    refine ⟨r, rfl, ⟨_, SqL.of h2⟩, fun j m H5 => m = z.length - j ∧ j ≤ z.length ∧ Same H H5 ∧ H5 r = some (.lst z) ∧ H5 D = some (.lst ((zs.take i).flatten ++ z.take j)), ⟨z.length, by simp, Nat.zero_le _, s1.trans s2, h2, by rw [List.take_zero, List.append_nil]; exact s2 _ _ d1⟩, ?_⟩
    rintro j m H5 ⟨rfl, hj, s5, r5, d5⟩
    have q5 : SqL K H5 r z := SqL.of r5
    by_cases hlj : j < z.length
    · refine .inr ⟨⟨z, z[j], q5, by simp [hlj]⟩, fun H6 => Same H H6 ∧ H6 r = some (.lst z) ∧ H6 D = some (.lst ((zs.take i).flatten ++ z.take (j + 1))), fun H6 p6 => ⟨z.length - (j + 1), by omega, rfl, hlj, p6.1, p6.2.1, p6.2.2⟩, fun u H6 y6 => ?_⟩
      obtain ⟨e6, y6⟩ := y6
      subst e6
      have hu := y6 z q5
      refine ⟨hw1 _ _, iteT ⟨u, hat _ _, _, d5, ?_, ?_⟩⟩
      · rw [List.length_append, List.length_take]
        exact small1000 (by omega)
      · refine ⟨fun b o qb => ?_, ?_, ?_⟩
        · rw [upd_ne (ne_of_none qb hD)]
          exact s5 _ _ qb
        · rw [upd_ne rD]
          exact r5
        · rw [upd_same, List.take_succ, hu, List.append_assoc]
          rfl
    · have e : j = z.length := by omega
      subst e
      refine .inl ⟨⟨z, q5, Nat.le_refl _⟩, s5, ?_⟩
      rw [tk]
      rw [List.take_length] at d5
      exact d5
  · have e : i = xs.length := by omega
    subst e
    refine .inl ⟨⟨xs, q, Nat.le_refl _⟩, hd H1 s1 ?_⟩
    rw [List.take_of_length_le (by omega)] at d1
    exact d1
end TS
namespace TS
open PySem L2
abbrev sDrawn : Stmt := top 110
/-- an own deed: a variable, whether it is late, a tree -/
def DeedV (H : Hp) (v : V) (d : DeedD) : Prop := ∃ q tv, v = .ref q ∧ H q = some (.tup [.str d.x, .bl d.l, tv]) ∧ TrAt H tv d.t
theorem DeedV.off {Ds : List Addr} {H H' : Hp} {v : V} {d : DeedD} (h : DeedV H v d) (s : SameOff Ds H H') (hl : Lists Ds H) : DeedV H' v d := by
  obtain ⟨q, tv, e, hq, ht⟩ := h
  refine ⟨q, tv, e, s _ _ hq fun m => ?_, ht.off s hl⟩
  obtain ⟨xs, e2⟩ := hl q m
  rw [hq] at e2
  cases e2
theorem DeedV.same {H H' : Hp} {v : V} {d : DeedD} (h : DeedV H v d) (s : Same H H') : DeedV H' v d := h.off (Same.off (Ds := []) s) (fun D m => by cases m)
/-- drawn of these variables, words and digits -/
structure OfD (vs ws : List Str) (ns : List Int) (deep : Nat) (d : DeedD) : Prop where
  x : d.x ∈ vs
  fine : d.t.fine
  deep : d.t.deep ≤ deep
  words : ∀ x ∈ d.t.words, x ∈ ws
  nums : ∀ n ∈ d.t.nums, n ∈ ns
section
variable {P : Program} {w : World} {K : PySem.W.Frag} {mg : Str → Option Value} {base : Heap}
abbrev nmDrawn : List Str := ["pool", "written", "words", "digits", "bound", "deep", "found", "turn", "tree"]
theorem scDrawn : FnScope nmDrawn ["pool", "written", "words", "digits", "bound", "deep"] (defScope sDrawn) := ⟨rfl, rfl, rfl, by decide +kernel, rfl, by decide +kernel, by decide +kernel⟩
def spDrawn (D : Nat) : Sp := fun vs H Q _ => ∃ (p lv lw lg : Addr) (us ws : List Str) (ns : List Int) (b deep : Nat), vs = [.ref p, .ref lv, .ref lw, .ref lg, .int b, .int deep] ∧ PoolAt H p ∧ StockP H p lw lg ws ns ∧ lv ≠ p ∧ H lv = some (.lst (us.map V.str)) ∧ 0 < us.length ∧ us.length ≤ 1000 ∧ 1 ≤ b ∧ b ≤ 900 ∧ 1 ≤ deep ∧ deep ≤ D ∧
  ∀ (H' : Hp) (r : Addr) (ys : List V) (ds : List DeedD), PoolOff p H H' → H r = none → H' r = some (.lst ys) → Each DeedV H' ys ds → 1 ≤ ds.length → ds.length ≤ b → (∀ d ∈ ds, OfD us ws ns deep d) → Q (.ref r) H'
theorem ok_drawn {kT D : Nat} {f : Addr} {fd : FuncData} (F : Fun K "_law_deeds_drawn" "_law_deeds_drawn" sDrawn f fd) (T : BltT mg) (U : BltU mg) (k2 : 2 ≤ kT) (D1 : Has P w K mg base "_law_take" 1 ["pool", "bound"] spTake) (D2 : Has P w K mg base "_law_one" 2 ["pool", "things"] (spOne K)) (D3 : Has P w K mg base "_law_tree" kT ["pool", "words", "digits", "deep"] (spLTreeP D)) :
    FnOk P w K mg base CX0 (kT + 1) f fd ["pool", "written", "words", "digits", "bound", "deep"] (spDrawn D) := by
  obtain ⟨f1, fd1, m1, k1, b1, G1⟩ := D1
  obtain ⟨f2, fd2, m2, k2', b2, G2⟩ := D2
  obtain ⟨f3, fd3, m3, k3, b3, G3⟩ := D3
  refine F.ok scDrawn (fun vs H Q E h => ?_) (fun cdv A outer s H vs Q E hr h => ?_)
  · obtain ⟨p, lv, lw, lg, us, ws, ns, b, deep, rfl, _⟩ := h
    rfl
  obtain ⟨p, lv, lw, lg, us, ws, ns, b, deep, rfl, hp, st, nv, hv, u0, u1, hb1, hb2, d1, d2, q⟩ := h
  have r1 : Room 1 _ := hr.mono (by omega)
  have r2 : Room 2 _ := hr.mono (by omega)
  refine ⟨_, pss_cons (ps_set (i := 6) scDrawn.nd rfl (.inl rfl) (pe_lst pa_nil))
    (pss_cons (ps_for PassesOwn.never rfl (pi_range1 rfl U.range (pa_cons (pe_op op_add pe_int (pe_call G1 r1 rfl m1 k1 b1 .nil pass0 (pa_cons (pv 0) (pa_cons (pv 4) pa_nil)))) pa_nil)) (pg_name (i := 7) scDrawn.nd rfl (.inl rfl))
      (pss_cons (ps_set (i := 8) scDrawn.nd rfl (.inl rfl) (pe_call G3 hr rfl m3 k3 b3 .nil pass0 (pa_cons (pv 0) (pa_cons (pv 2) (pa_cons (pv 3) (pa_cons (pv 5) pa_nil))))))
      (pss_one (ps_expr (pe_bm PySem.F.plainAttrs_list PySem.F.slot_list_append PySem.F.type_list_append mt_append (pv 6) (pa_cons (pe_tup (pa_cons (pe_call G2 r2 rfl m2 k2' b2 .nil pass0 (pa_cons (pv 0) (pa_cons (pv 1) pa_nil))) (pa_cons (pe_cmpR op_eq (pe_call G1 r1 rfl m1 k1 b1 .nil pass0 (pa_cons (pv 0) (pa_cons pe_int pa_nil))) pe_int (nomark _)) (pa_cons (pv 8) pa_nil)))) pa_nil))))))
    (pss_one (ps_ret (pv 6)))), ?_⟩
  refine ⟨by show 0 ≤ sizeLine; decide, fun a ha => ?_⟩
  have ap : a ≠ p := hp.ne ha
  have g1 : Same H (upd H a (.lst [])) := same_upd ha _
  have a1 : (upd H a (.lst [])) a = some (.lst []) := upd_same
  generalize upd H a (.lst []) = H1 at g1 a1
  have p1 := hp.same g1
  obtain ⟨x, y, ep, c0, y0, y1⟩ := id p1
  refine ⟨_, rfl, _, rfl, p, x, y, b, rfl, ep, c0, y0, y1, by omega, by omega, fun r x' y' r0 rb e0 e1 e2 => ?_⟩
  have s2 : PoolOff p H1 (upd H1 p (.lst [.int x', .int y'])) := pool_upd e0 e1 e2
  generalize upd H1 p (.lst [.int x', .int y']) = H2 at s2
  have s02 : PoolOff p H H2 := PoolOff.trans ⟨Same.off g1, p1⟩ s2
  have a2 := s2.1 _ _ a1 (by simpa using ap)
  obtain ⟨n, hn⟩ : ∃ n : Nat, 1 + r = (n : Int) := ⟨(1 + r).toNat, by omega⟩
  refine ⟨_, _, rfl, rfl, _, rfl, by omega, by omega, ?_⟩
  rw [hn]
  refine for_range (lo := 0) (n := n) (fun i σ H' => (∃ e7 e8 : Option V, σ = [some (.ref p), some (.ref lv), some (.ref lw), some (.ref lg), some (.int b), some (.int deep), some (.ref a), e7, e8]) ∧ PoolOff p H H' ∧ ∃ (ys : List V) (ds : List DeedD), H' a = some (.lst ys) ∧ ys.length = i ∧ Each DeedV H' ys ds ∧ ∀ d ∈ ds, OfD us ws ns deep d) ⟨⟨none, none, rfl⟩, s02, [], [], a2, rfl, Each.nil, by simp⟩ (fun i σ H3 hi z => ?_) (fun σ H3 z => ?_)
  · obtain ⟨⟨e7, e8, rfl⟩, s3, ys, ds, a3, ly, hE, hO⟩ := z
    refine ⟨_, rfl, _, rfl, _, rfl, _, rfl, p, lw, lg, ws, ns, deep, rfl, s3.2, st.off s3.1, d1, d2, fun H4 tv t s4 ht hf hdd hww hnn => ?_⟩
    have s04 := s3.trans s4
    have a4 := s4.1 _ _ a3 (by simpa using ap)
    have lvs : ∀ {G : Hp}, PoolOff p H G → G lv = some (.lst (us.map V.str)) := fun s => s.1 _ _ hv (by simpa using nv)
    refine ⟨_, rfl, .inl ⟨rfl, _, SqL.of a4⟩, _, rfl, _, rfl, p, .ref lv, rfl, s4.2, .inl ⟨lv, _, rfl, nv, SqL.of (lvs s04), by rw [List.length_map]; exact u0, by rw [List.length_map]; exact u1, fun H5 k v hk s5 => ?_⟩⟩
    obtain ⟨u, hu, rfl⟩ := map_at hk
    obtain ⟨x, y, ep, c0, y0, y1⟩ := id s5.2
    refine ⟨_, rfl, p, x, y, 3, rfl, ep, c0, y0, y1, by decide, by decide, fun r5 x' y' _ _ e0 e1 e2 => ⟨rfl, _, rfl, ?_⟩⟩
    have s6 : PoolOff p H5 (upd H5 p (.lst [.int x', .int y'])) := pool_upd e0 e1 e2
    generalize upd H5 p (.lst [.int x', .int y']) = H6 at s6
    have s46 := s5.trans s6
    have a6 := s46.1 _ _ a4 (by simpa using ap)
    have L4 : Lists [p] H4 := pool_lists s4.2
    have L3 : Lists [p] H3 := pool_lists s3.2
    refine ⟨by show 3 ≤ sizeLine; decide, fun t2 ht2 => ?_⟩
    have g7 : Same H6 (upd H6 t2 (.tup [.str u, .bl (decide (V.int r5 = V.int 0)), tv])) := same_upd ht2 _
    have t7 : (upd H6 t2 (.tup [.str u, .bl (decide (V.int r5 = V.int 0)), tv])) t2 = some (.tup [.str u, .bl (decide (V.int r5 = V.int 0)), tv]) := upd_same
    generalize upd H6 t2 (.tup [.str u, .bl (decide (V.int r5 = V.int 0)), tv]) = H7 at g7 t7
    have a7 := g7 _ _ a6
    have s37 : PoolOff p H3 H7 := (s4.trans s46).trans ⟨Same.off g7, s6.2.same g7⟩
    have ht7 : TrAt H7 tv t := (ht.off s46.1 L4).same g7
    have La : Lists [a] H7 := fun D m => by
      rw [List.mem_singleton.mp m]
      exact ⟨_, a7⟩
    have oa : SameOff [a] H7 (upd H7 a (.lst (ys ++ [.ref t2]))) := off_upd (SameOff.refl _ _) (by simp)
    refine ⟨a, ys, _, rfl, rfl, a7, small1000 (by omega), ⟨_, _, rfl⟩, ?_, ys ++ [.ref t2], ds ++ [⟨u, decide (V.int r5 = V.int 0), t⟩], upd_same, by simp [ly], ?_, fun d hd => ?_⟩
    · refine ⟨fun c o e n => ?_, ?_⟩
      · rw [upd_ne (ne_of_none e ha)]
        exact (s3.trans s37).1 c o e n
      · obtain ⟨u', v', e, rr⟩ := s37.2
        exact ⟨u', v', by rw [upd_ne ap.symm]; exact e, rr⟩
    · exact Each.snoc (hE.imp fun v d h => (h.off s37.1 L3).off oa La) ((show DeedV H7 (.ref t2) ⟨u, decide (V.int r5 = V.int 0), t⟩ from ⟨t2, tv, rfl, t7, ht7⟩).off oa La)
    · rcases List.mem_append.mp hd with hd | hd
      · exact hO d hd
      · rw [List.mem_singleton.mp hd]
        exact ⟨List.mem_of_getElem? hu, hf, hdd, hww, hnn⟩
  · obtain ⟨⟨e7, e8, rfl⟩, s3, ys, ds, a3, ly, hE, hO⟩ := z
    refine ⟨_, rfl, q H3 a ys ds s3 ha a3 hE ?_ ?_ hO⟩
    · rw [← hE.1, ly]
      omega
    · rw [← hE.1, ly]
      omega
end
end TS
namespace TS
open PySem L2
abbrev sPInit : Stmt := (inClass (top 55) 0)
theorem put1_nodup {κ : Type} [DecidableEq κ] {l : List κ} (h : l.Nodup) (k : κ) : (put1 l k).Nodup := by
  unfold put1
  split
  · exact h
  · rename_i n
    exact List.nodup_cons.mpr ⟨n, h⟩
theorem fold_nd {κ : Type} [DecidableEq κ] : ∀ (l acc : List κ), acc.Nodup → (l.foldl put1 acc).Nodup
  | [], _, h => h
  | k :: r, acc, h => fold_nd r _ (put1_nodup h k)
theorem once_nd {κ : Type} [DecidableEq κ] (l : List κ) : (once l).Nodup := fold_nd l [] (by simp)
/-- a list that is a set, in order -/
structure SetS' (ws : List Str) (φ : Str → Prop) : Prop where
  so : PyProof.Rows.sortedS ws = true
  nd : ws.Nodup
  mem : ∀ x, x ∈ ws ↔ φ x
structure SetI' (ns : List Int) (φ : Int → Prop) : Prop where
  so : ns.Pairwise (· ≤ ·)
  nd : ns.Nodup
  mem : ∀ x, x ∈ ns ↔ φ x
theorem SetS'.of {ws ss : List Str} {φ : Str → Prop} (pm : ws.Perm (once ss)) (so : PyProof.Rows.sortedS ws = true) (h : ∀ x, x ∈ ss ↔ φ x) : SetS' ws φ := ⟨so, pm.nodup_iff.mpr (once_nd ss), fun x => (pm.mem_iff.trans (once_mem _ _)).trans (h x)⟩
theorem SetI'.of {ws ss : List Int} {φ : Int → Prop} (pm : ws.Perm (once ss)) (so : ws.Pairwise (· ≤ ·)) (h : ∀ x, x ∈ ss ↔ φ x) : SetI' ws φ := ⟨so, pm.nodup_iff.mpr (once_nd ss), fun x => (pm.mem_iff.trans (once_mem _ _)).trans (h x)⟩
theorem SetS'.same {ws ws' : List Str} {φ : Str → Prop} (h : SetS' ws φ) (h' : SetS' ws' φ) : ws = ws' :=
  sortedS_same ((List.perm_ext_iff_of_nodup h.nd h'.nd).mpr fun x => (h.mem x).trans (h'.mem x).symm) h.so h'.so
theorem SetI'.same {ws ws' : List Int} {φ : Int → Prop} (h : SetI' ws φ) (h' : SetI' ws' φ) : ws = ws' :=
  sortedI_same ((List.perm_ext_iff_of_nodup h.nd h'.nd).mpr fun x => (h.mem x).trans (h'.mem x).symm) h.so h'.so
/-- what a Process is made of -/
structure ProcD where
  name : Str
  waits : List Str
  ds : List DeedD
def ProcD.read (p : ProcD) (x : Str) : Prop := ∃ d ∈ p.ds, x ∈ d.t.words
def ProcD.written (p : ProcD) (x : Str) : Prop := ∃ d ∈ p.ds, x = d.x
def ProcD.const (p : ProcD) (n : Int) : Prop := ∃ d ∈ p.ds, n ∈ d.t.nums
structure ProcD.Ok (p : ProcD) : Prop where
  name : WordOk p.name
  turn : p.name ≠ "turn"
  w1 : 1 ≤ p.waits.length
  w4 : p.waits.length ≤ 4
  wok : ∀ x ∈ p.waits, WordOk x
  wnd : p.waits.Nodup
  d1 : 1 ≤ p.ds.length
  d4 : p.ds.length ≤ 4
  dok : ∀ d ∈ p.ds, d.Ok
  few : ∀ l : List Str, l.Nodup → (∀ x ∈ l, p.read x) → l.length < 64
  fewN : ∀ l : List Int, l.Nodup → (∀ x ∈ l, p.const x) → l.length < 64
def pfs (n : Str) (lw ld lr lt lc : Addr) : List (Str × V) := putF "_constants" (.ref lc) (putF "_writes" (.ref lt) (putF "_reads" (.ref lr) (putF "_deeds" (.ref ld) (putF "_waits" (.ref lw) (putF "_name" (.str n) [])))))
structure ProcAt (PC CD C : Addr) (H : Hp) (a : Addr) (p : ProcD) : Prop where
  ok : p.Ok
  ob : ∃ (dx lw ld lr lt lc : Addr) (as : List Addr) (rs ts : List Str) (cs : List Int), H a = some (.ins PC dx (pfs p.name lw ld lr lt lc)) ∧ H lw = some (.lst (p.waits.map V.str)) ∧ H ld = some (.lst (as.map V.ref)) ∧ as.length = p.ds.length ∧ (∀ (i : Nat) b d, as[i]? = some b → p.ds[i]? = some d → DAt CD C H b d) ∧
    H lr = some (.lst (rs.map V.str)) ∧ SetS' rs p.read ∧ H lt = some (.lst (ts.map V.str)) ∧ SetS' ts p.written ∧ H lc = some (.lst (cs.map V.int)) ∧ SetI' cs p.const
open Classical in
/-- a tree's words, each once, ascending (the one such list, where there is one) -/
noncomputable def twords (t : Tr) : List Str := if h : ∃ ws : List Str, ws.Perm (once t.words) ∧ PyProof.Rows.sortedS ws = true then Classical.choose h else []
open Classical in
noncomputable def tnums (t : Tr) : List Int := if h : ∃ ns : List Int, ns.Perm (once t.nums) ∧ ns.Pairwise (· ≤ ·) then Classical.choose h else []
theorem twords_eq {t : Tr} {ws : List Str} (pm : ws.Perm (once t.words)) (so : PyProof.Rows.sortedS ws = true) : ws = twords t := by
  have h : ∃ ws : List Str, ws.Perm (once t.words) ∧ PyProof.Rows.sortedS ws = true := ⟨ws, pm, so⟩
  have e : twords t = Classical.choose h := dif_pos h
  have g := Classical.choose_spec h
  rw [e]
  exact sortedS_same (pm.trans g.1.symm) so g.2
theorem tnums_eq {t : Tr} {ns : List Int} (pm : ns.Perm (once t.nums)) (so : ns.Pairwise (· ≤ ·)) : ns = tnums t := by
  have h : ∃ ns : List Int, ns.Perm (once t.nums) ∧ ns.Pairwise (· ≤ ·) := ⟨ns, pm, so⟩
  have e : tnums t = Classical.choose h := dif_pos h
  have g := Classical.choose_spec h
  rw [e]
  exact sortedI_same (pm.trans g.1.symm) so g.2
theorem TermAt.tw {C p : Addr} {H : Hp} {t : Tr} (h : TermAt C H p t) : (twords t).Perm (once t.words) ∧ (tnums t).Perm (once t.nums) := by
  obtain ⟨_, _, dx, v, l, q, r, ws, ns, h1, _, h3, h4, h5, h6, h7, h8, h9⟩ := h
  rw [← twords_eq h6 h7, ← tnums_eq h8 h9]
  exact ⟨h6, h8⟩
theorem DeedAt.tw {CD C a : Addr} {H : Hp} {d : DeedD} (h : DAt CD C H a d) : (twords d.t).Perm (once d.t.words) ∧ (tnums d.t).Perm (once d.t.nums) := by
  obtain ⟨_, dx, b, e, ht⟩ := h
  exact ht.tw
theorem DeedAt.sameX {CD C p a PC dx : Addr} {H H' : Hp} {d : DeedD} (h : DAt CD C H a d) (s : SameX p H H') (hp : H p = some (.ins PC dx [])) (na : a ≠ p) : DAt CD C H' a d := by
  obtain ⟨hw, dx', b, e, ht⟩ := h
  refine ⟨hw, dx', b, s _ _ e na, ht.sameX s hp fun z => ?_⟩
  subst z
  obtain ⟨_, _, dx2, v, l, q, r, ws, ns, h1, _⟩ := ht
  rw [hp] at h1
  have e2 : ([] : List (Str × V)) = tfs v d.t.text d.t.deep d.t.kind l q r := by
    injection h1 with h1
    injection h1 with _ _ h1
  have := tfs_depth v d.t.text d.t.deep d.t.kind l q r
  rw [← e2] at this
  cases this
theorem words_le : ∀ t : Tr, t.words.length ≤ t.leaves.length
  | .num _ => Nat.zero_le _
  | .wd _ => Nat.le_refl _
  | .ch a b c d => by
    have h1 := words_le a
    have h2 := words_le b
    have h3 := words_le c
    have h4 := words_le d
    simp only [Tr.words, Tr.leaves, List.length_append, List.length_nil]
    omega
theorem nums_le : ∀ t : Tr, t.nums.length ≤ t.leaves.length
  | .num _ => Nat.le_refl _
  | .wd _ => Nat.zero_le _
  | .ch a b c d => by
    have h1 := nums_le a
    have h2 := nums_le b
    have h3 := nums_le c
    have h4 := nums_le d
    simp only [Tr.nums, Tr.leaves, List.length_append, List.length_nil]
    omega
theorem flat_le {α : Type} {n : Nat} : ∀ zs : List (List α), (∀ z ∈ zs, z.length ≤ n) → zs.flatten.length ≤ zs.length * n
  | [], _ => Nat.zero_le _
  | z :: r, h => by
    have h1 := flat_le r fun y hy => h y (by simp [hy])
    have h2 := h z (by simp)
    rw [List.flatten_cons, List.length_append, List.length_cons, Nat.add_mul, Nat.one_mul]
    omega
section
variable {P : Program} {w : World} {K : PySem.W.Frag} {mg : Str → Option Value} {base : Heap}
/-! ascending, of longer lists with few unlike items -/
def spAscF : Sp := fun vs H Q _ => ∃ (l : Addr) (xs : List V), vs = [V.ref l] ∧ H l = some (.lst xs) ∧ xs.length ≤ 1000 ∧
  ((∃ ss : List Str, xs = ss.map V.str ∧ (once ss).length < 64 ∧ ∀ (r : Addr) (H' : Hp) (out : List Str), Same H H' → H r = none → out.Perm (once ss) → PyProof.Rows.sortedS out = true → H' r = some (.lst (out.map V.str)) → Q (.ref r) H') ∨
   (∃ ns : List Int, xs = ns.map V.int ∧ (once ns).length < 64 ∧ ∀ (r : Addr) (H' : Hp) (out : List Int), Same H H' → H r = none → out.Perm (once ns) → out.Pairwise (· ≤ ·) → H' r = some (.lst (out.map V.int)) → Q (.ref r) H'))
theorem ok_ascF {f : Addr} {fd : FuncData} (F : Fun K "ascending" "ascending" sAsc f fd) (T : BltT mg) : FnOk P w K mg base CX0 1 f fd ["values"] spAscF := by
  refine F.ok scAsc (fun vs H Q E h => ?_) (fun cdv A outer s H vs Q E hr h => ?_)
  · obtain ⟨l, xs, rfl, _⟩ := h
    rfl
  obtain ⟨l, xs, rfl, hl, h64, h⟩ := h
  refine ⟨_, pss_one (ps_ret (pe_callB (cr_sortX (by rfl)) (by rfl) T.sorted (by decide +kernel) (pa_cons (pe_callTy (cr_setL (by rfl)) (by rfl) T.set (by decide +kernel) (pa_cons (pv 0) pa_nil)) pa_nil))), ?_⟩
  refine ⟨_, rfl, l, xs, rfl, .of hl, (by show xs.length + 1 < 4096; omega), ?_⟩
  rcases h with ⟨ss, rfl, few, q⟩ | ⟨ns, rfl, few, q⟩
  · refine .inl ⟨ss, rfl, fun p hp => ⟨p, rfl, .inl ⟨once ss, upd_same, few, fun out r pm so hr' => ?_⟩⟩⟩
    have g1 : Same H (upd H p (SetS P w p (once ss))) := same_upd hp _
    exact q r _ out (g1.trans (same_upd hr' _)) (g1.free hr') pm so upd_same
  · refine .inr ⟨ns, rfl, fun p hp => ⟨p, rfl, .inr ⟨once ns, upd_same, few, fun out r pm so hr' => ?_⟩⟩⟩
    have g1 : Same H (upd H p (SetI P w p (once ns))) := same_upd hp _
    exact q r _ out (g1.trans (same_upd hr' _)) (g1.free hr') pm so upd_same
structure ProcK (K : PySem.W.Frag) (mg : Str → Option Value) (PC : Addr) : Prop where
  cl : Cls K PC
  mgC : mg "Process" = some (.ref PC)
  n1 : NoAttr K PC "_name"
  n2 : NoAttr K PC "_waits"
  n3 : NoAttr K PC "_deeds"
  n4 : NoAttr K PC "_reads"
  n5 : NoAttr K PC "_writes"
  n6 : NoAttr K PC "_constants"
  turn : ∃ t, mg "TURN" = some (.str "turn" t)
  most : ∃ t, mg "MOST_WAITS" = some (.int 4 t)
/-- a property of the class at C -/
def HasP (P : Program) (w : World) (K : PySem.W.Frag) (mg : Str → Option Value) (base : Heap) (C : Addr) (m : Str) (k : Nat) (sp : Sp) : Prop :=
  ∃ (p g : Addr) (fd : FuncData), PropOf K C m p g ∧ Binds K fd ["self"] [] ∧ FnOk P w K mg base CX0 k g fd ["self"] sp
abbrev nmPInit : List Str := ["self", "name", "waits", "deeds", "held", "word", "deed", "number"]
theorem scPInit : FnScope nmPInit ["self", "name", "waits", "deeds"] (defScope sPInit) := ⟨rfl, rfl, rfl, by decide +kernel, rfl, by decide +kernel, by decide +kernel⟩
def spPInit (PC CD C : Addr) : Sp := fun vs H Q _ => ∃ (p dx qw qd : Addr) (pd : ProcD), vs = [.ref p, .str pd.name, .ref qw, .ref qd] ∧ H p = some (.ins PC dx []) ∧ pd.Ok ∧ H qw = some (.lst (pd.waits.map V.str)) ∧ H qd = some (.lst (pd.ds.map fun d => V.str d.text)) ∧
  ∀ H', SameX p H H' → (∀ Ds, Lists Ds H → ∀ G, SameOff Ds H' G → ProcAt PC CD C G p pd) → Q .non H'
theorem ok_pinit {C CD PC f : Addr} {fd : FuncData} (F : Fun K "__init__" "Process.__init__" sPInit f fd) (T : BltT mg) (ml : mg "list" = none) (TK : TermK K mg C) (DK : DeedK K mg CD) (PK : ProcK K mg PC)
    (D1 : Has P w K mg base "is_word" 1 ["value"] (spIsWord K)) (D2 : Has P w K mg base "are_unlike_words" 3 ["value", "most"] spUnlikeW) (D3 : Has P w K mg base "_deeds_of" 18 ["values"] (spDeedsOf CD C)) (D4 : Has P w K mg base "ascending" 1 ["values"] spAscF)
    (PV : HasP P w K mg base CD "variable" 1 (spDVar CD C)) (PT : HasP P w K mg base CD "term" 1 (spDTerm CD C)) (MV : HasM P w K mg base C "variables" 1 ["self"] (spTVars C)) (MC : HasM P w K mg base C "constants" 1 ["self"] (spTCons C)) : FnOk P w K mg base CX0 19 f fd ["self", "name", "waits", "deeds"] (spPInit PC CD C) := by
  obtain ⟨f1, fd1, m1, k1, b1, G1⟩ := D1
  obtain ⟨f2, fd2, m2, k2, b2, G2⟩ := D2
  obtain ⟨f3, fd3, m3, k3, b3, G3⟩ := D3
  obtain ⟨f4, fd4, m4, k4, b4, G4⟩ := D4
  obtain ⟨p5, g5, fd5, h5, b5, G5⟩ := PV
  obtain ⟨p6, g6, fd6, h6, b6, G6⟩ := PT
  obtain ⟨f7, fd7, h7, b7, G7⟩ := MV
  obtain ⟨f8, fd8, h8, b8, G8⟩ := MC
  obtain ⟨tT, mT⟩ := PK.turn
  obtain ⟨t4, mW⟩ := PK.most
  refine F.ok scPInit (fun vs H Q E h => ?_) (fun cdv A outer s H vs Q E hr h => ?_)
  · obtain ⟨p, dx, qw, qd, pd, rfl, _⟩ := h
    rfl
  obtain ⟨p, dx, qw, qd, pd, rfl, hp, ok, hqw, hqd, q⟩ := h
  have r1 : Room 1 _ := hr.mono (by decide)
  have r2 : Room 2 _ := hr.mono (by decide)
  have r3 : Room 3 _ := hr.mono (by decide)
  refine ⟨_, pss_cons (ps_if (PW.pt (pw_or (pt_not (pt_val (pe_call G1 r1 rfl m1 k1 b1 .nil pass0 (pa_cons (pv 1) pa_nil)))) (pw_or1 (pt_cmpR op_eq (pv 1) (pe_glob rfl mT (show RelV (.str "turn") (.str "turn" tT) from ⟨_, rfl⟩)) (nomark _))))) (pss_one ps_dead) pss_nil)
    (pss_cons (ps_if (pt_not (pt_val (pe_call G2 r3 rfl m2 k2 b2 .nil pass0 (pa_cons (pv 2) (pa_cons (pe_glob rfl mW (show RelV (.int 4) (.int 4 t4) from ⟨_, rfl⟩)) pa_nil))))) (pss_one ps_dead) pss_nil)
    (pss_cons (ps_set (i := 4) scPInit.nd rfl (.inl rfl) (pe_call G3 hr rfl m3 k3 b3 .nil pass0 (pa_cons (pv 3) pa_nil)))
    (pss_cons (ps_if (pt_cmpR op_isN (pv 4) pe_non (nomark _)) (pss_one ps_dead) pss_nil)
    (pss_cons (ps_fld (pv 0) (pv 1) rfl)
    (pss_cons (ps_fld (pv 0) (pe_callTy call_list_of (by rfl) ml (by decide +kernel) (pa_cons (pv 2) pa_nil)) rfl)
    (pss_cons (ps_fld (pv 0) (pv 4) rfl)
    (pss_cons (ps_fld (pv 0) (pe_call G4 r1 rfl m4 k4 b4 .nil pass0 (pa_cons
      (pe_lc2 (own := [("deed", 6), ("word", 5)]) (vs1 := [5]) (g := gName 6) (g1 := gName 5) (tt := tYes) (tt1 := tYes) (te := tVar 5) (wi1 := iList K (tMeth C "variables" (spTVars C) [] E0 (tProp CD (spDTerm CD C) [] E0 (tVar 6)) tNil)) (by rfl) scPInit.nd (pi_list (pv 4)) (blkOk_by (own := [("deed", 6), ("word", 5)]) (N := nmPInit) (sc := defScope sPInit) (by decide +kernel)) (by decide)
        (fun _ _ _ _ _ => pg_name (i := 6) scPInit.nd rfl (Or.inl rfl)) (fun _ _ _ _ _ => pts_nil)
        (fun _ _ _ _ _ => pi_list (pe_meth0 (pe_prop (pv 6) DK.cl h6 G6 r2 b6 .nil pass0 rfl) TK.cl h7 G7 r1 b7 .nil pass0))
        (fun _ _ _ _ _ => pg_name (i := 5) scPInit.nd rfl (Or.inl rfl)) (fun _ _ _ _ _ => pts_nil) (fun _ _ _ _ _ => pv 5)) pa_nil)) rfl)
    (pss_cons (ps_fld (pv 0) (pe_call G4 r1 rfl m4 k4 b4 .nil pass0 (pa_cons
      (pe_lc (own := [("deed", 6)]) (g := gName 6) (tt := tYes) (by rfl) scPInit.nd (pi_list (pv 4)) (blkOk_by (own := [("deed", 6)]) (N := nmPInit) (sc := defScope sPInit) (by decide +kernel)) (fun _ _ _ _ _ => pg_name (i := 6) scPInit.nd rfl (Or.inl rfl)) (fun _ _ _ _ _ => pts_nil)
        (fun _ _ _ _ _ => pe_prop (pv 6) DK.cl h5 G5 r2 b5 .nil pass0 rfl)) pa_nil)) rfl)
    (pss_one (ps_fld (pv 0) (pe_call G4 r1 rfl m4 k4 b4 .nil pass0 (pa_cons
      (pe_lc2 (own := [("deed", 6), ("number", 7)]) (vs1 := [7]) (g := gName 6) (g1 := gName 7) (tt := tYes) (tt1 := tYes) (te := tVar 7) (wi1 := iList K (tMeth C "constants" (spTCons C) [] E0 (tProp CD (spDTerm CD C) [] E0 (tVar 6)) tNil)) (by rfl) scPInit.nd (pi_list (pv 4)) (blkOk_by (own := [("deed", 6), ("number", 7)]) (N := nmPInit) (sc := defScope sPInit) (by decide +kernel)) (by decide)
        (fun _ _ _ _ _ => pg_name (i := 6) scPInit.nd rfl (Or.inl rfl)) (fun _ _ _ _ _ => pts_nil)
        (fun _ _ _ _ _ => pi_list (pe_meth0 (pe_prop (pv 6) DK.cl h6 G6 r2 b6 .nil pass0 rfl) TK.cl h8 G8 r1 b8 .nil pass0))
        (fun _ _ _ _ _ => pg_name (i := 7) scPInit.nd rfl (Or.inl rfl)) (fun _ _ _ _ _ => pts_nil) (fun _ _ _ _ _ => pv 7)) pa_nil)) rfl)))))))))), ?_⟩
  have ln : pd.name.length ≤ 8 := ok.name.2.1
  refine ⟨_, rfl, .str pd.name, rfl, .inl ⟨pd.name, rfl, by omega, fun H1 s1 => ⟨_, rfl, ?_⟩⟩⟩
  rw [wordOk_iff.mpr ok.name]
  have nt : decide (V.str pd.name = V.str "turn") = false := decide_eq_false fun e => ok.turn (V.str.inj e)
  refine iteF ⟨_, rfl, rfl, _, rfl, ?_⟩
  rw [nt]
  refine iteF ⟨_, rfl, qw, pd.waits, 4, rfl, s1 _ _ hqw, ok.wok, ok.wnd, ok.w1, ok.w4, by decide, fun H2 s2 => ⟨_, rfl, iteF ⟨_, rfl, qd, pd.ds, rfl, s2 _ _ (s1 _ _ hqd), ok.dok, ok.d1, ok.d4, fun H3 ld as s3 nl hl la hD => ?_⟩⟩⟩
  refine ⟨_, rfl, rfl, _, rfl, iteF ?_⟩
  have p2 : H2 p = some (.ins PC dx []) := s2 _ _ (s1 _ _ hp)
  have p3 := s3 _ _ p2
  have lp : ld ≠ p := (ne_of_none p2 nl).symm
  have s03 : Same H H3 := (s1.trans s2).trans s3
  have qw3 := s03 _ _ hqw
  have qp : qw ≠ p := ne_of qw3 p3 (by intro z; cases z)
  have ap : ∀ (i : Nat) a d, as[i]? = some a → pd.ds[i]? = some d → a ≠ p := fun i a d ha hd => (ne_of_none p2 (hD i a d ha hd).1).symm
  have D3 : ∀ A, SameX p H3 A → ∀ (i : Nat) a d, as[i]? = some a → pd.ds[i]? = some d → DAt CD C A a d := fun A x i a d ha hd => ((hD i a d ha hd).2 [] (fun D m => by cases m)).now.sameX x p3 (ap i a d ha hd)
  have dof : ∀ d ∈ pd.ds, (twords d.t).Perm (once d.t.words) ∧ (tnums d.t).Perm (once d.t.nums) := fun d hd => by
    obtain ⟨i, hi, e⟩ := List.getElem_of_mem hd
    have ha : as[i]? = some (as[i]'(by omega)) := List.getElem?_eq_getElem _
    exact (D3 H3 (SameX.refl p H3) i _ d ha (by rw [← e]; exact List.getElem?_eq_getElem hi)).tw
  have hl0 : (as.map V.ref).length = pd.ds.length := by rw [List.length_map, la]
  have fwl : ((pd.ds.map fun d => (twords d.t).map V.str).flatten).length ≤ 1000 := by
    refine Nat.le_trans (flat_le (n := 16) _ fun z hz => ?_) (by rw [List.length_map]; have := ok.d4; omega)
    obtain ⟨d, hd, rfl⟩ := List.mem_map.mp hz
    have l1 := leaves16 (ok.dok d hd).2.2
    have l2 := words_le d.t
    have l3 := once_len d.t.words
    have l4 := (dof d hd).1.length_eq
    rw [List.length_map]
    omega
  have fnl : ((pd.ds.map fun d => (tnums d.t).map V.int).flatten).length ≤ 1000 := by
    refine Nat.le_trans (flat_le (n := 16) _ fun z hz => ?_) (by rw [List.length_map]; have := ok.d4; omega)
    obtain ⟨d, hd, rfl⟩ := List.mem_map.mp hz
    have l1 := leaves16 (ok.dok d hd).2.2
    have l2 := nums_le d.t
    have l3 := once_len d.t.nums
    have l4 := (dof d hd).2.length_eq
    rw [List.length_map]
    omega
  -- self._name
  refine ⟨_, rfl, _, rfl, p, PC, dx, [], rfl, p3, PK.cl, PK.n1, (by show 0 < 1000; decide), ?_⟩
  generalize ez1 : putF "_name" (.str pd.name) [] = z1
  have c1 : z1.length ≤ 1 := by
    rw [← ez1]
    exact few (Nat.le_refl 0)
  have x1 : SameX p H3 (upd H3 p (.ins PC dx z1)) := sx_self
  have q1 : (upd H3 p (.ins PC dx z1)) p = some (.ins PC dx z1) := upd_same
  generalize upd H3 p (.ins PC dx z1) = A1 at x1 q1
  -- self._waits
  refine ⟨_, rfl, qw, _, rfl, .inl (SqL.of (x1 _ _ qw3 qp)), fun lw hlw => ⟨_, rfl, p, PC, dx, z1, rfl, same_upd hlw _ _ _ q1, PK.cl, PK.n2, by omega, ?_⟩⟩
  have wp : lw ≠ p := (ne_of_none q1 hlw).symm
  have w3 : H3 lw = none := by
    cases e : H3 lw with
    | none => rfl
    | some o =>
      rw [x1 _ _ e wp] at hlw
      cases hlw
  generalize ez2 : putF "_waits" (.ref lw) z1 = z2
  have c2 : z2.length ≤ 2 := by
    rw [← ez2]
    exact few c1
  have x2 : SameX p H3 (upd (upd A1 lw (.lst (pd.waits.map V.str))) p (.ins PC dx z2)) := sx_upd (x1.trans (Same.x (same_upd hlw _)))
  have q2 : (upd (upd A1 lw (.lst (pd.waits.map V.str))) p (.ins PC dx z2)) p = some (.ins PC dx z2) := upd_same
  have lw2 : (upd (upd A1 lw (.lst (pd.waits.map V.str))) p (.ins PC dx z2)) lw = some (.lst (pd.waits.map V.str)) := lst_upd upd_same wp
  generalize upd (upd A1 lw (.lst (pd.waits.map V.str))) p (.ins PC dx z2) = A2 at x2 q2 lw2
  -- self._deeds
  refine ⟨_, rfl, _, rfl, p, PC, dx, z2, rfl, q2, PK.cl, PK.n3, by omega, ?_⟩
  generalize ez3 : putF "_deeds" (.ref ld) z2 = z3
  have c3 : z3.length ≤ 3 := by
    rw [← ez3]
    exact few c2
  have x3 : SameX p H3 (upd A2 p (.ins PC dx z3)) := sx_upd x2
  have q3 : (upd A2 p (.ins PC dx z3)) p = some (.ins PC dx z3) := upd_same
  have lw3 : (upd A2 p (.ins PC dx z3)) lw = some (.lst (pd.waits.map V.str)) := lst_upd lw2 wp
  generalize upd A2 p (.ins PC dx z3) = A3 at x3 q3 lw3
  have la3 := x3 _ _ hl lp
  -- self._reads
  refine ⟨_, rfl, ld, rfl, ⟨_, SqL.of la3⟩, fun D hDn => lc_flatL (K := K) (zs := pd.ds.map fun d => (twords d.t).map V.str) la3 (by rw [List.length_map, hl0]) ?_ hDn (fun _ => rfl) (fun _ _ => rfl) (fun _ _ => rfl) (fun i x z H1 R hx hz sa q => ?_) (fun H4 s4 d4 => ?_)⟩
  · exact fwl
  · obtain ⟨a, ha, rfl⟩ := map_at hx
    obtain ⟨d, hd, rfl⟩ := map_at hz
    have dat := D3 H1 (x3.trans (Same.x sa)) i a d ha hd
    obtain ⟨_, dx', b, e, _⟩ := id dat
    refine ⟨_, rfl, a, dx', _, rfl, e, a, d, rfl, dat, fun p' tp => ?_⟩
    obtain ⟨_, _, dx2, v, l, qq, r, ws, ns, h1, _⟩ := id tp
    exact ⟨p', dx2, _, rfl, h1, tfs_no _ _ _ _ _ _ _ (by decide +kernel), p', d.t, rfl, tp, fun l ws hl pm so => q l _ (same_upd hl _) hl (by rw [twords_eq pm so]; exact upd_same)⟩
  have fl : ((pd.ds.map fun d => (twords d.t).map V.str).flatten) = ((pd.ds.map fun d => twords d.t).flatten).map V.str := by
    rw [List.map_flatten, List.map_map]
    rfl
  have mr : ∀ x, x ∈ (pd.ds.map fun d => twords d.t).flatten ↔ pd.read x := fun x => by
    rw [List.mem_flatten]
    constructor
    · rintro ⟨z, hz, hx⟩
      obtain ⟨d, hd, rfl⟩ := List.mem_map.mp hz
      exact ⟨d, hd, (once_mem _ _).mp ((dof d hd).1.mem_iff.mp hx)⟩
    · rintro ⟨d, hd, hx⟩
      exact ⟨_, List.mem_map.mpr ⟨d, hd, rfl⟩, (dof d hd).1.mem_iff.mpr ((once_mem _ _).mpr hx)⟩
  refine ⟨D, _, rfl, d4, ?_, .inl ⟨_, fl, ?_, fun lr H5 rs s5 hlr prs srs hr5 => ⟨_, rfl, p, PC, dx, z3, rfl, s5 _ _ (s4 _ _ q3), PK.cl, PK.n4, by omega, ?_⟩⟩⟩
  · exact fwl
  · exact ok.few _ (once_nd _) fun x hx => (mr x).mp ((once_mem _ _).mp hx)
  have x35 : SameX p H3 H5 := x3.trans (Same.x (s4.trans s5))
  have q5 : H5 p = some (.ins PC dx z3) := s5 _ _ (s4 _ _ q3)
  have lw5 := s5 _ _ (s4 _ _ lw3)
  have rp : lr ≠ p := (ne_of_none (s4 _ _ q3) hlr).symm
  generalize ez4 : putF "_reads" (.ref lr) z3 = z4
  have c4 : z4.length ≤ 4 := by
    rw [← ez4]
    exact few c3
  have x6 : SameX p H3 (upd H5 p (.ins PC dx z4)) := sx_upd x35
  have q6 : (upd H5 p (.ins PC dx z4)) p = some (.ins PC dx z4) := upd_same
  have lw6 : (upd H5 p (.ins PC dx z4)) lw = some (.lst (pd.waits.map V.str)) := lst_upd lw5 wp
  have lr6 : (upd H5 p (.ins PC dx z4)) lr = some (.lst (rs.map V.str)) := lst_upd hr5 rp
  generalize upd H5 p (.ins PC dx z4) = A6 at x6 q6 lw6 lr6
  have la6 := x6 _ _ hl lp
  -- self._writes
  refine ⟨_, rfl, ld, rfl, ⟨_, SqL.of la6⟩, fun D2 hD2 => lc_eachL (K := K) (fun _ v (d : DeedD) => v = .str d.x) (ts := pd.ds) la6 hl0.symm (by rw [hl0]; have := ok.d4; omega) hD2 (fun _ => rfl) (fun i x d H1 G hx hd sa hLs hG => ?_) (fun H7 ys s7 d7 e7 => ?_)⟩
  · obtain ⟨a, ha, rfl⟩ := map_at hx
    have dat := D3 H1 (x6.trans (Same.x sa)) i a d ha hd
    obtain ⟨_, dx', b, e, _⟩ := id dat
    exact ⟨_, rfl, a, dx', _, rfl, e, a, d, rfl, dat, hG _ H1 (Same.refl _) fun _ _ => rfl⟩
  have ey : ys = (pd.ds.map (·.x)).map V.str := by
    refine List.ext_getElem? fun i => ?_
    rw [List.map_map, List.getElem?_map]
    by_cases c : i < ys.length
    · have hd : pd.ds[i]? = some (pd.ds[i]'(by rw [← e7.1]; exact c)) := List.getElem?_eq_getElem _
      rw [hd, List.getElem?_eq_getElem c, e7.2 i _ _ (List.getElem?_eq_getElem c) hd]
      rfl
    · rw [List.getElem?_eq_none (by omega), List.getElem?_eq_none (by rw [← e7.1]; omega)]
      rfl
  have mw : ∀ x, x ∈ pd.ds.map (·.x) ↔ pd.written x := fun x => by
    rw [List.mem_map]
    exact ⟨fun ⟨d, hd, e⟩ => ⟨d, hd, e.symm⟩, fun ⟨d, hd, e⟩ => ⟨d, hd, e.symm⟩⟩
  refine ⟨D2, _, rfl, d7, ?_, .inl ⟨_, ey, ?_, fun lt H8 ts s8 hlt pts sts hr8 => ⟨_, rfl, p, PC, dx, z4, rfl, s8 _ _ (s7 _ _ q6), PK.cl, PK.n5, by omega, ?_⟩⟩⟩
  · rw [e7.1]
    have := ok.d4
    omega
  · have h := once_len (pd.ds.map (·.x))
    rw [List.length_map] at h
    have := ok.d4
    omega
  have x68 : SameX p H3 H8 := x6.trans (Same.x (s7.trans s8))
  have q8 : H8 p = some (.ins PC dx z4) := s8 _ _ (s7 _ _ q6)
  have lw8 := s8 _ _ (s7 _ _ lw6)
  have lr8 := s8 _ _ (s7 _ _ lr6)
  have tp : lt ≠ p := (ne_of_none (s7 _ _ q6) hlt).symm
  generalize ez5 : putF "_writes" (.ref lt) z4 = z5
  have c5 : z5.length ≤ 5 := by
    rw [← ez5]
    exact few c4
  have x9 : SameX p H3 (upd H8 p (.ins PC dx z5)) := sx_upd x68
  have q9 : (upd H8 p (.ins PC dx z5)) p = some (.ins PC dx z5) := upd_same
  have lw9 : (upd H8 p (.ins PC dx z5)) lw = some (.lst (pd.waits.map V.str)) := lst_upd lw8 wp
  have lr9 : (upd H8 p (.ins PC dx z5)) lr = some (.lst (rs.map V.str)) := lst_upd lr8 rp
  have lt9 : (upd H8 p (.ins PC dx z5)) lt = some (.lst (ts.map V.str)) := lst_upd hr8 tp
  generalize upd H8 p (.ins PC dx z5) = A9 at x9 q9 lw9 lr9 lt9
  have la9 := x9 _ _ hl lp
  -- self._constants
  refine ⟨_, rfl, ld, rfl, ⟨_, SqL.of la9⟩, fun D hDn => lc_flatL (K := K) (zs := pd.ds.map fun d => (tnums d.t).map V.int) la9 (by rw [List.length_map, hl0]) ?_ hDn (fun _ => rfl) (fun _ _ => rfl) (fun _ _ => rfl) (fun i x z H1 R hx hz sa q => ?_) (fun H10 s10 d10 => ?_)⟩
  · exact fnl
  · obtain ⟨a, ha, rfl⟩ := map_at hx
    obtain ⟨d, hd, rfl⟩ := map_at hz
    have dat := D3 H1 (x9.trans (Same.x sa)) i a d ha hd
    obtain ⟨_, dx', b, e, _⟩ := id dat
    refine ⟨_, rfl, a, dx', _, rfl, e, a, d, rfl, dat, fun p' tp => ?_⟩
    obtain ⟨_, _, dx2, v, l, qq, r, ws, ns, h1, _⟩ := id tp
    exact ⟨p', dx2, _, rfl, h1, tfs_no _ _ _ _ _ _ _ (by decide +kernel), p', d.t, rfl, tp, fun l ws hl pm so => q l _ (same_upd hl _) hl (by rw [tnums_eq pm so]; exact upd_same)⟩
  have fn : ((pd.ds.map fun d => (tnums d.t).map V.int).flatten) = ((pd.ds.map fun d => tnums d.t).flatten).map V.int := by
    rw [List.map_flatten, List.map_map]
    rfl
  have mc : ∀ x, x ∈ (pd.ds.map fun d => tnums d.t).flatten ↔ pd.const x := fun x => by
    rw [List.mem_flatten]
    constructor
    · rintro ⟨z, hz, hx⟩
      obtain ⟨d, hd, rfl⟩ := List.mem_map.mp hz
      exact ⟨d, hd, (once_mem _ _).mp ((dof d hd).2.mem_iff.mp hx)⟩
    · rintro ⟨d, hd, hx⟩
      exact ⟨_, List.mem_map.mpr ⟨d, hd, rfl⟩, (dof d hd).2.mem_iff.mpr ((once_mem _ _).mpr hx)⟩
  refine ⟨D, _, rfl, d10, fnl, .inr ⟨_, fn, ?_, fun lc H11 cs s11 hlc pcs scs hr11 => ⟨_, rfl, p, PC, dx, z5, rfl, s11 _ _ (s10 _ _ q9), PK.cl, PK.n6, by omega, ?_⟩⟩⟩
  · exact ok.fewN _ (once_nd _) fun x hx => (mc x).mp ((once_mem _ _).mp hx)
  have x911 : SameX p H3 H11 := x9.trans (Same.x (s10.trans s11))
  have lw11 := s11 _ _ (s10 _ _ lw9)
  have lr11 := s11 _ _ (s10 _ _ lr9)
  have lt11 := s11 _ _ (s10 _ _ lt9)
  have cp : lc ≠ p := (ne_of_none (s10 _ _ q9) hlc).symm
  have ez : putF "_constants" (.ref lc) z5 = pfs pd.name lw ld lr lt lc := by
    rw [← ez5, ← ez4, ← ez3, ← ez2, ← ez1]
    rfl
  rw [ez]
  have x12 : SameX p H3 (upd H11 p (.ins PC dx (pfs pd.name lw ld lr lt lc))) := sx_upd x911
  have q12 : (upd H11 p (.ins PC dx (pfs pd.name lw ld lr lt lc))) p = some (.ins PC dx (pfs pd.name lw ld lr lt lc)) := upd_same
  have lw12 : (upd H11 p (.ins PC dx (pfs pd.name lw ld lr lt lc))) lw = some (.lst (pd.waits.map V.str)) := lst_upd lw11 wp
  have lr12 : (upd H11 p (.ins PC dx (pfs pd.name lw ld lr lt lc))) lr = some (.lst (rs.map V.str)) := lst_upd lr11 rp
  have lt12 : (upd H11 p (.ins PC dx (pfs pd.name lw ld lr lt lc))) lt = some (.lst (ts.map V.str)) := lst_upd lt11 tp
  have lc12 : (upd H11 p (.ins PC dx (pfs pd.name lw ld lr lt lc))) lc = some (.lst (cs.map V.int)) := lst_upd hr11 cp
  generalize upd H11 p (.ins PC dx (pfs pd.name lw ld lr lt lc)) = A12 at x12 q12 lw12 lr12 lt12 lc12
  have la12 := x12 _ _ hl lp
  have fr : ∀ {B : Hp} {b : Addr}, SameX p H3 B → B b = none → b ≠ p → H b = none := fun {B b} x hb n => by
    cases e : H b with
    | none => rfl
    | some o =>
      rw [x _ _ (s03 _ _ e) n] at hb
      cases hb
  refine q A12 (fun b o e n => x12 b o (s03 _ _ e) n) fun Ds hDs G sG => ?_
  have nD : ∀ b, H b = none → b ∉ Ds := fun b hb m => by
    obtain ⟨xs, e⟩ := hDs b m
    rw [hb] at e
    cases e
  have pD : p ∉ Ds := fun m => by
    obtain ⟨xs, e⟩ := hDs p m
    rw [hp] at e
    cases e
  refine ⟨ok, dx, lw, ld, lr, lt, lc, as, rs, ts, cs, sG _ _ q12 pD, sG _ _ lw12 (nD _ (fr (SameX.refl p H3) w3 wp)), sG _ _ la12 (nD _ ((s1.trans s2).free nl)), la, fun i a d ha hd => ?_, sG _ _ lr12 (nD _ (fr (x3.trans (Same.x s4)) hlr rp)), SetS'.of prs srs mr, sG _ _ lt12 (nD _ (fr (x6.trans (Same.x s7)) hlt tp)), SetS'.of pts sts mw, sG _ _ lc12 (nD _ (fr (x9.trans (Same.x s10)) hlc cp)), SetI'.of pcs scs mc⟩
  have tG : DAt CD C (upd G p (.ins PC dx [])) a d := (hD i a d ha hd).2 Ds (fun D m => let ⟨xs, e⟩ := hDs D m; ⟨xs, s2 _ _ (s1 _ _ e)⟩) _ fun b o e n => by
    by_cases hb : b = p
    · subst hb
      rw [upd_same, ← e, p3]
    · rw [upd_ne hb]
      exact sG b o (x12 b o e hb) n
  refine tG.sameX (fun b o e n => ?_) upd_same (ap i a d ha hd)
  rw [upd_ne n] at e
  exact e
end
end TS
namespace TS
open PySem L2
abbrev sLess : Stmt := top 112
/-- an own entry: a name, waits, own deeds; its lists are none of these -/
def EntryV (Ds : List Addr) (H : Hp) (v : V) (e : ProcD) : Prop := ∃ (q lw ld : Addr) (ys : List V), v = .ref q ∧ H q = some (.tup [.str e.name, .ref lw, .ref ld]) ∧ H lw = some (.lst (e.waits.map V.str)) ∧ H ld = some (.lst ys) ∧ Each DeedV H ys e.ds ∧ lw ∉ Ds ∧ ld ∉ Ds
/-- an own program: a dict of entries and inputs -/
def PlainV (Ds : List Addr) (H : Hp) (v : V) (es : List ProcD) (ins : List Str) : Prop := ∃ (q lp li : Addr) (ys : List V), v = .ref q ∧ H q = some (.dK [(.inr "processes", .ref lp), (.inr "inputs", .ref li)]) ∧ H lp = some (.lst ys) ∧ Each (EntryV Ds) H ys es ∧ H li = some (.lst (ins.map V.str)) ∧ lp ∉ Ds ∧ li ∉ Ds
theorem EntryV.off {Ds : List Addr} {H H' : Hp} {v : V} {e : ProcD} (h : EntryV Ds H v e) (s : SameOff Ds H H') (hl : Lists Ds H) : EntryV Ds H' v e := by
  obtain ⟨q, lw, ld, ys, rfl, h1, h2, h3, h4, h5, h6⟩ := h
  exact ⟨q, lw, ld, ys, rfl, s _ _ h1 (no_list hl h1 (fun _ z => by cases z)), s _ _ h2 h5, s _ _ h3 h6, h4.imp fun v d h => h.off s hl, h5, h6⟩
theorem EntryV.same {Ds : List Addr} {H H' : Hp} {v : V} {e : ProcD} (h : EntryV Ds H v e) (s : Same H H') : EntryV Ds H' v e := by
  obtain ⟨q, lw, ld, ys, rfl, h1, h2, h3, h4, h5, h6⟩ := h
  exact ⟨q, lw, ld, ys, rfl, s _ _ h1, s _ _ h2, s _ _ h3, h4.imp fun v d h => h.same s, h5, h6⟩
theorem EntryV.sub {Ds Ds' : List Addr} {H : Hp} {v : V} {e : ProcD} (h : EntryV Ds H v e) (s : ∀ x, x ∈ Ds' → x ∈ Ds) : EntryV Ds' H v e := by
  obtain ⟨q, lw, ld, ys, rfl, h1, h2, h3, h4, h5, h6⟩ := h
  exact ⟨q, lw, ld, ys, rfl, h1, h2, h3, h4, fun m => h5 (s _ m), fun m => h6 (s _ m)⟩
theorem EntryV.new {Ds : List Addr} {b : Addr} {H : Hp} {v : V} {e : ProcD} (h : EntryV Ds H v e) (hb : H b = none) : EntryV (b :: Ds) H v e := by
  obtain ⟨q, lw, ld, ys, rfl, h1, h2, h3, h4, h5, h6⟩ := h
  exact ⟨q, lw, ld, ys, rfl, h1, h2, h3, h4, by simpa using ⟨ne_of_none h2 hb, h5⟩, by simpa using ⟨ne_of_none h3 hb, h6⟩⟩
theorem PlainV.off {Ds : List Addr} {H H' : Hp} {v : V} {es : List ProcD} {ins : List Str} (h : PlainV Ds H v es ins) (s : SameOff Ds H H') (hl : Lists Ds H) : PlainV Ds H' v es ins := by
  obtain ⟨q, lp, li, ys, rfl, h1, h2, h3, h4, h5, h6⟩ := h
  exact ⟨q, lp, li, ys, rfl, s _ _ h1 (no_list hl h1 (fun _ z => by cases z)), s _ _ h2 h5, h3.imp fun v d h => h.off s hl, s _ _ h4 h6, h5, h6⟩
theorem PlainV.same {Ds : List Addr} {H H' : Hp} {v : V} {es : List ProcD} {ins : List Str} (h : PlainV Ds H v es ins) (s : Same H H') : PlainV Ds H' v es ins := by
  obtain ⟨q, lp, li, ys, rfl, h1, h2, h3, h4, h5, h6⟩ := h
  exact ⟨q, lp, li, ys, rfl, s _ _ h1, s _ _ h2, h3.imp fun v d h => h.same s, s _ _ h4, h5, h6⟩
/-- the deeds with some more of them late -/
def LessD (ds ds' : List DeedD) : Prop := ds'.length = ds.length ∧ ∀ (j : Nat) d d', ds[j]? = some d → ds'[j]? = some d' → d'.x = d.x ∧ d'.t = d.t ∧ (d.l = true → d'.l = true)
theorem LessD.nil : LessD [] [] := ⟨rfl, fun j d d' h _ => by simp at h⟩
theorem LessD.snoc {ds ds' : List DeedD} {d d' : DeedD} (h : LessD ds ds') (h1 : d'.x = d.x) (h2 : d'.t = d.t) (h3 : d.l = true → d'.l = true) : LessD (ds ++ [d]) (ds' ++ [d']) := by
  refine ⟨by simp [h.1], fun j e e' a b => ?_⟩
  rcases snoc_at a with a | ⟨ja, rfl⟩
  · rcases snoc_at b with b | ⟨jb, rfl⟩
    · exact h.2 j e e' a b
    · have := (List.getElem?_eq_some_iff.mp a).1
      have := h.1
      omega
  · rcases snoc_at b with b | ⟨jb, rfl⟩
    · have := (List.getElem?_eq_some_iff.mp b).1
      have := h.1
      omega
    · exact ⟨h1, h2, h3⟩
structure LessE (e e' : ProcD) : Prop where
  name : e'.name = e.name
  waits : e'.waits = e.waits
  ds : LessD e.ds e'.ds
def LessAll (es es' : List ProcD) : Prop := es'.length = es.length ∧ ∀ (j : Nat) e e', es[j]? = some e → es'[j]? = some e' → LessE e e'
theorem LessAll.nil : LessAll [] [] := ⟨rfl, fun j d d' h _ => by simp at h⟩
theorem LessAll.snoc {ds ds' : List ProcD} {d d' : ProcD} (h : LessAll ds ds') (h1 : LessE d d') : LessAll (ds ++ [d]) (ds' ++ [d']) := by
  refine ⟨by simp [h.1], fun j e e' a b => ?_⟩
  rcases snoc_at a with a | ⟨ja, rfl⟩
  · rcases snoc_at b with b | ⟨jb, rfl⟩
    · exact h.2 j e e' a b
    · have := (List.getElem?_eq_some_iff.mp a).1
      have := h.1
      omega
  · rcases snoc_at b with b | ⟨jb, rfl⟩
    · have := (List.getElem?_eq_some_iff.mp b).1
      have := h.1
      omega
    · exact h1
/-- how many deeds are at once -/
def onceD (ds : List DeedD) : Nat := (ds.filter fun d => !d.l).length
def onceE (es : List ProcD) : Nat := (es.map fun e => onceD e.ds).sum
theorem onceD_snoc (ds : List DeedD) (d : DeedD) : onceD (ds ++ [d]) = onceD ds + (if d.l = true then 0 else 1) := by
  unfold onceD
  rw [List.filter_append, List.length_append]
  cases e : d.l <;> simp [e]
theorem onceE_snoc (es : List ProcD) (e : ProcD) : onceE (es ++ [e]) = onceE es + onceD e.ds := by
  unfold onceE
  rw [List.map_append, List.sum_append]
  simp
section
variable {P : Program} {w : World} {K : PySem.W.Frag} {mg : Str → Option Value} {base : Heap}
abbrev nmLess : List Str := ["plain", "left", "processes", "name", "waits", "deeds", "made", "variable", "is_late", "tree"]
theorem scLess : FnScope nmLess ["plain"] (defScope sLess) := ⟨rfl, rfl, rfl, by decide +kernel, rfl, by decide +kernel, by decide +kernel⟩
def spLess : Sp := fun vs H Q _ => ∃ (a : Addr) (es : List ProcD) (ins : List Str) (Ds : List Addr), vs = [.ref a] ∧ Lists Ds H ∧ PlainV Ds H (.ref a) es ins ∧ es.length ≤ 900 ∧ (∀ e ∈ es, e.ds.length ≤ 900) ∧
  ∀ (H' : Hp) (r : Addr) (es' : List ProcD), Same H H' → H r = none → PlainV Ds H' (.ref r) es' ins → LessAll es es' → onceE es' ≤ 8 → Q (.ref r) H'
theorem ok_less {f : Addr} {fd : FuncData} (F : Fun K "_law_less_at_once" "_law_less_at_once" sLess f fd) (T : BltT mg) : FnOk P w K mg base CX0 1 f fd ["plain"] spLess := by
  refine F.ok scLess (fun vs H Q E h => ?_) (fun cdv A outer s H vs Q E hr h => ?_)
  · obtain ⟨a, es, ins, Ds, rfl, _⟩ := h
    rfl
  obtain ⟨a, es, ins, Ds, rfl, hDs, hpl, l1, l2, q⟩ := h
  have hu := hu_of hr
  refine ⟨_, pss_cons (ps_par (i := 1) (j := 2) (by rfl) scLess.nd rfl rfl (by decide) rfl rfl (pa_cons pe_int (pa_cons (pe_lst pa_nil) pa_nil)) (by rfl))
    (pss_cons (ps_for PassesOwn.never rfl (pi_list (pe_dget hu (pv 0) pe_str (fun _ _ => rfl))) (pg_tup (by rfl) (pgs_cons (pg_name (i := 3) scLess.nd rfl (.inl rfl)) (pgs_cons (pg_name (i := 4) scLess.nd rfl (.inl rfl)) (pgs_cons (pg_name (i := 5) scLess.nd rfl (.inl rfl)) pgs_nil))))
      (pss_cons (ps_set (i := 6) scLess.nd rfl (.inl rfl) (pe_lst pa_nil))
      (pss_cons (ps_for PassesOwn.never rfl (pi_list (pv 5)) (pg_tup (by rfl) (pgs_cons (pg_name (i := 7) scLess.nd rfl (.inl rfl)) (pgs_cons (pg_name (i := 8) scLess.nd rfl (.inl rfl)) (pgs_cons (pg_name (i := 9) scLess.nd rfl (.inl rfl)) pgs_nil))))
        (pss_cons (ps_set (i := 1) scLess.nd rfl (.inl rfl) (pe_op op_sub (pv 1) (pe_callTy call_int1 (by rfl) T.int (by decide +kernel) (pa_cons (pe_not (pv 8)) pa_nil))))
        (pss_one (ps_expr (pe_bm PySem.F.plainAttrs_list PySem.F.slot_list_append PySem.F.type_list_append mt_append (pv 6) (pa_cons (pe_tup (pa_cons (pv 7) (pa_cons (pe_or (pv 8) (pe_one (pe_cmpR op_lt (pv 1) pe_int (nomark _)))) (pa_cons (pv 9) pa_nil)))) pa_nil))))))
      (pss_one (ps_expr (pe_bm PySem.F.plainAttrs_list PySem.F.slot_list_append PySem.F.type_list_append mt_append (pv 2) (pa_cons (pe_tup (pa_cons (pv 3) (pa_cons (pv 4) (pa_cons (pv 6) pa_nil)))) pa_nil)))))))
    (pss_one (ps_ret (pe_disp (pps_cons pe_str (pv 2) (pps_cons pe_str (pe_dget hu (pv 0) pe_str (fun _ _ => rfl)) pps_nil)) (by rfl) (by rfl) (fun z => by cases z) (by decide))))), ?_⟩
  refine ⟨by show 0 ≤ sizeLine; decide, fun b hb => ⟨_, _, rfl, ?_⟩⟩
  have g1 : Same H (upd H b (.lst [])) := same_upd hb _
  have b1 : (upd H b (.lst [])) b = some (.lst []) := upd_same
  generalize upd H b (.lst []) = H1 at g1 b1
  obtain ⟨a', lp, li, ys, ea, hd, hlp, hE, hli, np, ni⟩ := id hpl
  cases ea
  have lE : ys.length = es.length := hE.1
  refine ⟨_, rfl, a, _, rfl, DGet.k (k := .inr "processes") (g1 _ _ hd), lp, rfl, ⟨_, SqL.of (g1 _ _ hlp)⟩, ?_⟩
  refine for_list (K := K) (xs := ys) (fun i σ H' => (∃ (left : Int) (e3 e4 e5 e6 e7 e8 e9 : Option V), σ = [some (.ref a), some (.int left), some (.ref b), e3, e4, e5, e6, e7, e8, e9] ∧ Same H H' ∧ ∃ (ys' : List V) (es' : List ProcD), H' b = some (.lst ys') ∧ ys'.length = i ∧ Each (EntryV (b :: Ds)) H' ys' es' ∧ LessAll (es.take i) es' ∧ onceE es' + left.toNat ≤ 8)) ⟨8, none, none, none, none, none, none, none, rfl, g1, [], [], b1, rfl, Each.nil, LessAll.nil, by decide⟩ (fun i σ H' hi z => ?_) (fun i x σ H2 hx z => ?_) (fun σ H2 z => ?_)
  · obtain ⟨_, _, _, _, _, _, _, _, _, s2, _⟩ := z
    exact SqL.of (s2 _ _ hlp)
  · obtain ⟨left, e3, e4, e5, e6, e7, e8, e9, rfl, s2, ys', es', hb2, ly, hE2, hL, hO⟩ := z
    have hi : i < es.length := by
      have := (List.getElem?_eq_some_iff.mp hx).1
      omega
    have he : es[i]? = some es[i] := List.getElem?_eq_getElem hi
    have hen := hE.2 i x _ hx he
    have hl2 := l2 _ (List.getElem_mem hi)
    generalize es[i] = e at he hen hl2
    have hen2 := (hen.new hb).same s2
    obtain ⟨qe, lw, ld, zs, rfl, hq, hw, hld, hZ, nwd, nd⟩ := hen2
    have nw : lw ∉ Ds := fun m => nwd (by simp [m])
    have nwb : lw ≠ b := fun m => nwd (by simp [m])
    refine ⟨qe, _, rfl, SqT.of hq, rfl, _, _, rfl, _, _, rfl, _, _, rfl, rfl, by show 0 ≤ sizeLine; decide, fun m hm => ?_⟩
    have g3 : Same H2 (upd H2 m (.lst [])) := same_upd hm _
    have m3 : (upd H2 m (.lst [])) m = some (.lst []) := upd_same
    have bm : b ≠ m := ne_of_none hb2 hm
    generalize upd H2 m (.lst []) = H3 at g3 m3
    have s3 := s2.trans g3
    have hb3 := g3 _ _ hb2
    have lZ : zs.length = e.ds.length := hZ.1
    refine ⟨_, rfl, ld, rfl, ⟨_, SqL.of (g3 _ _ hld)⟩, ?_⟩
    refine for_list (K := K) (xs := zs) (fun j σ H' => (∃ (left : Int) (e7 e8 e9 : Option V), σ = [some (.ref a), some (.int left), some (.ref b), some (.str e.name), some (.ref lw), some (.ref ld), some (.ref m), e7, e8, e9] ∧ Same H2 H' ∧ ∃ (zs' : List V) (ds' : List DeedD), H' m = some (.lst zs') ∧ zs'.length = j ∧ Each DeedV H' zs' ds' ∧ LessD (e.ds.take j) ds' ∧ onceE es' + onceD ds' + left.toNat ≤ 8)) ⟨left, e7, e8, e9, rfl, g3, [], [], m3, rfl, Each.nil, LessD.nil, by simpa [onceD] using hO⟩ (fun j σ H' hj z => ?_) (fun j z σ H4 hz zz => ?_) (fun σ H4 zz => ?_)
    · obtain ⟨_, _, _, _, _, s4, _⟩ := z
      exact SqL.of (s4 _ _ hld)
    · obtain ⟨left, e7, e8, e9, rfl, s4, zs', ds', hm4, lz, hE4, hL4, hO4⟩ := zz
      have hj : j < e.ds.length := by
        have := (List.getElem?_eq_some_iff.mp hz).1
        omega
      have hd : e.ds[j]? = some e.ds[j] := List.getElem?_eq_getElem hj
      have hdn := hZ.2 j z _ hz hd
      generalize e.ds[j] = d at hd hdn
      obtain ⟨qd, tv, rfl, hqd, htv⟩ := hdn.same s4
      have lz9 : zs'.length < sizeLine := small1000 (by omega)
      refine ⟨qd, _, rfl, SqT.of hqd, rfl, _, _, rfl, _, _, rfl, _, _, rfl, rfl, _, rfl, _, rfl, d.l, rfl, .inr ⟨!d.l, rfl, _, _, rfl, rfl, ?_⟩⟩
      have body : ∀ (left' : Int) (l' : Bool) (t : Addr) (H5 : Hp), (d.l = true → l' = true) → onceE es' + (onceD ds' + (if l' = true then 0 else 1)) + left'.toNat ≤ 8 → H4 t = none → H5 = upd H4 t (.tup [.str d.x, .bl l', tv]) → H5 m = some (.lst zs') ∧
          (Same H2 (upd H5 m (.lst (zs' ++ [.ref t]))) ∧ ∃ (zs'' : List V) (ds'' : List DeedD), (upd H5 m (.lst (zs' ++ [.ref t]))) m = some (.lst zs'') ∧ zs''.length = j + 1 ∧ Each DeedV (upd H5 m (.lst (zs' ++ [.ref t]))) zs'' ds'' ∧ LessD (e.ds.take (j + 1)) ds'' ∧ onceE es' + onceD ds'' + left'.toNat ≤ 8) := fun left' l' t H5 h1 h2 ht e5 => by
        have g5 : Same H4 H5 := by rw [e5]; exact same_upd ht _
        have t5 : H5 t = some (.tup [.str d.x, .bl l', tv]) := by rw [e5]; exact upd_same
        have m5 := g5 _ _ hm4
        have Lm : Lists [m] H5 := fun D mD => by
          rw [List.mem_singleton.mp mD]
          exact ⟨_, m5⟩
        have om : SameOff [m] H5 (upd H5 m (.lst (zs' ++ [.ref t]))) := off_upd (SameOff.refl _ _) (by simp)
        refine ⟨m5, fun c o ec => ?_, zs' ++ [.ref t], ds' ++ [⟨d.x, l', d.t⟩], upd_same, by simp [lz], ?_, ?_, ?_⟩
        · rw [upd_ne (ne_of_none ec hm)]
          exact g5 _ _ (s4 _ _ ec)
        · exact Each.snoc (hE4.imp fun v d h => (h.same g5).off om Lm) ((show DeedV H5 (.ref t) ⟨d.x, l', d.t⟩ from ⟨t, tv, rfl, t5, htv.same g5⟩).off om Lm)
        · rw [take_snoc hd]
          exact hL4.snoc rfl rfl h1
        · rw [onceD_snoc]
          exact h2
      refine ⟨_, rfl, .inl ⟨rfl, _, SqL.of hm4⟩, _, rfl, _, rfl, d.l, rfl, ?_⟩
      cases hdl : d.l with
      | true =>
        refine iteT ⟨_, rfl, by show 3 ≤ sizeLine; decide, fun t ht => ?_⟩
        obtain ⟨B1, B2⟩ := body (left - 0) true t _ (fun _ => rfl) (by
          rw [if_pos rfl]
          have : (left - 0).toNat = left.toNat := by omega
          omega) ht rfl
        exact ⟨m, zs', _, rfl, rfl, B1, lz9, _, _, _, _, rfl, B2⟩
      | false =>
        refine iteF ⟨_, rfl, _, _, rfl, rfl, _, rfl, by show 3 ≤ sizeLine; decide, fun t ht => ?_⟩
        obtain ⟨B1, B2⟩ := body (left - 1) (decide (left - 1 < 0)) t _ (fun h => by rw [hdl] at h; cases h) (by
          by_cases c : left - 1 < 0
          · rw [if_pos (decide_eq_true c)]
            omega
          · rw [if_neg (by simpa using c)]
            omega) ht rfl
        exact ⟨m, zs', _, rfl, rfl, B1, lz9, _, _, _, _, rfl, B2⟩
    · obtain ⟨left, e7, e8, e9, rfl, s4, zs', ds', hm4, lz, hE4, hL4, hO4⟩ := zz
      rw [List.take_of_length_le (by omega)] at hL4
      have hb4 := s4 _ _ hb2
      refine ⟨_, rfl, .inl ⟨rfl, _, SqL.of hb4⟩, _, rfl, _, rfl, _, rfl, by show 3 ≤ sizeLine; decide, fun t ht => ?_⟩
      have g5 : Same H4 (upd H4 t (.tup [.str e.name, .ref lw, .ref m])) := same_upd ht _
      have t5 : (upd H4 t (.tup [.str e.name, .ref lw, .ref m])) t = some (.tup [.str e.name, .ref lw, .ref m]) := upd_same
      generalize upd H4 t (.tup [.str e.name, .ref lw, .ref m]) = H5 at g5 t5
      have hb5 := g5 _ _ hb4
      have Lb : Lists (b :: Ds) H5 := fun c hc => by
        rcases List.mem_cons.mp hc with rfl | hc
        · exact ⟨_, hb5⟩
        · obtain ⟨xs, e⟩ := hDs c hc
          exact ⟨xs, g5 _ _ (s4 _ _ (s2 _ _ e))⟩
      have ob : SameOff (b :: Ds) H5 (upd H5 b (.lst (ys' ++ [.ref t]))) := off_upd (SameOff.refl _ _) (by simp)
      have nm : m ∉ b :: Ds := fun hc => by
        rcases List.mem_cons.mp hc with e | hc
        · exact bm e.symm
        · obtain ⟨xs, e⟩ := hDs m hc
          rw [s2 _ _ e] at hm
          cases hm
      have nlw : lw ∉ b :: Ds := fun hc => by
        rcases List.mem_cons.mp hc with e' | hc
        · subst e'
          exact nwb rfl
        · exact nw hc
      refine ⟨b, ys', _, rfl, rfl, hb5, small1000 (by omega), left, _, _, _, _, _, _, _, rfl, fun c o ec => ?_, ys' ++ [.ref t], es' ++ [⟨e.name, e.waits, ds'⟩], upd_same, by simp [ly], ?_, ?_, ?_⟩
      · rw [upd_ne (ne_of_none ec hb)]
        exact g5 _ _ (s4 _ _ (s2 _ _ ec))
      · exact Each.snoc (hE2.imp fun v e h => ((h.same s4).same g5).off ob Lb) ((show EntryV (b :: Ds) H5 (.ref t) ⟨e.name, e.waits, ds'⟩ from ⟨t, lw, m, zs', rfl, t5, g5 _ _ (s4 _ _ hw), g5 _ _ hm4, hE4.imp fun v d h => h.same g5, nlw, nm⟩).off ob Lb)
      · rw [take_snoc he]
        exact hL.snoc ⟨rfl, rfl, hL4⟩
      · rw [onceE_snoc]
        exact hO4
  · obtain ⟨left, e3, e4, e5, e6, e7, e8, e9, rfl, s2, ys', es', hb2, ly, hE2, hL, hO⟩ := z
    refine fun r hr' => ⟨_, rfl, _, rfl, a, _, rfl, DGet.k (k := .inr "inputs") ((same_upd hr' _) _ _ (s2 _ _ hd)), upd_same, [(.inr "processes", .ref b), (.inr "inputs", .ref li)], rfl, by simp, ?_⟩
    have br : b ≠ r := ne_of_none hb2 hr'
    have g5 : Same H2 (upd (upd H2 r (.dK [])) r (.dK (mergeK [] [(.inr "processes", .ref b), (.inr "inputs", .ref li)]))) := fun c o e => by
      rw [upd_ne (ne_of_none e hr'), upd_ne (ne_of_none e hr')]
      exact e
    rw [List.take_of_length_le (by omega)] at hL
    refine q _ r es' (s2.trans g5) (s2.free hr') ⟨r, b, li, ys', rfl, ?_, g5 _ _ hb2, ?_, g5 _ _ (s2 _ _ hli), ?_, ni⟩ hL (by omega)
    · rw [upd_same]
      rfl
    · exact hE2.imp fun v e h => (h.sub (fun x hx => by simp [hx])).same g5
    · intro m
      obtain ⟨xs, e⟩ := hDs b m
      rw [hb] at e
      cases e
end
end TS
namespace TS
open PySem L2
abbrev sPlainG : Stmt := top 111
theorem cut_take (xs : List V) (k : Nat) : cutV xs none (some (k : Int)) = xs.take k := by
  have e0 : HT.sIx xs.length 0 none = 0 := rfl
  have e1 : HT.sIx xs.length xs.length (some (k : Int)) = min k xs.length := HT.sIx_nat _ _ _
  show (xs.drop (HT.sIx xs.length 0 none)).take (HT.sIx xs.length xs.length (some (k : Int)) - HT.sIx xs.length 0 none) = _
  rw [e0, e1, List.drop_zero, Nat.sub_zero]
  by_cases c : k ≤ xs.length
  · rw [Nat.min_eq_left c]
  · rw [Nat.min_eq_right (by omega), List.take_length, List.take_of_length_le (by omega)]
theorem cut_drop (xs : List V) (k : Nat) : cutV xs (some (k : Int)) none = xs.drop k := by
  have e0 : HT.sIx xs.length xs.length none = xs.length := rfl
  have e1 : HT.sIx xs.length 0 (some (k : Int)) = min k xs.length := HT.sIx_nat _ _ _
  show (xs.drop (HT.sIx xs.length 0 (some (k : Int)))).take (HT.sIx xs.length xs.length none - HT.sIx xs.length 0 (some (k : Int))) = _
  rw [e0, e1]
  by_cases c : k ≤ xs.length
  · rw [Nat.min_eq_left c, List.take_of_length_le (by rw [List.length_drop]; omega)]
  · rw [Nat.min_eq_right (by omega), List.drop_length, List.drop_of_length_le (by omega)]
    simp
/-- the menu of digits -/
def digs5 : List (List Int) := [[], [0], [1], [0, 1], [2, 7]]
def ups : List Str := ["p", "q", "r", "s", "t"]
def downs : List Str := ["t", "s", "r", "q", "p"]
theorem LessAll.mem {es es' : List ProcD} (h : LessAll es es') : ∀ e' ∈ es', ∃ e ∈ es, LessE e e' := fun e' he' => by
  obtain ⟨j, hj, ej⟩ := List.getElem_of_mem he'
  have hd0 : es[j]? = some (es[j]'(by rw [← h.1]; exact hj)) := List.getElem?_eq_getElem _
  exact ⟨_, List.mem_of_getElem? hd0, h.2 j _ e' hd0 (by rw [← ej]; exact List.getElem?_eq_getElem hj)⟩
theorem LessAll.names {es es' : List ProcD} (h : LessAll es es') : es'.map (·.name) = es.map (·.name) := by
  refine List.ext_getElem? fun i => ?_
  rw [List.getElem?_map, List.getElem?_map]
  by_cases c : i < es.length
  · have h1 : es[i]? = some es[i] := List.getElem?_eq_getElem c
    have h2 : es'[i]? = some (es'[i]'(by rw [h.1]; exact c)) := List.getElem?_eq_getElem _
    rw [h1, h2, Option.map_some, Option.map_some, (h.2 i _ _ h1 h2).name]
  · rw [List.getElem?_eq_none (by have := h.1; omega), List.getElem?_eq_none (by omega)]
/-- what _law_plain draws -/
structure Gen (mp md deep : Nat) (ws : List Str) (k : Nat) (ns : List Int) (es : List ProcD) : Prop where
  wok : ∀ x ∈ ws, WordOk x ∧ x.length ≤ 5
  wnd : ws.Nodup
  w34 : ws.length = 3 ∨ ws.length = 4
  k12 : k = 1 ∨ (k = 2 ∧ ws.length = 4)
  dg : ns ∈ digs5
  names : es.map (·.name) = ups.take es.length ∨ es.map (·.name) = downs.take es.length
  e1 : 1 ≤ es.length
  e2 : es.length ≤ mp
  waits : ∀ e ∈ es, 1 ≤ e.waits.length ∧ e.waits.length ≤ 2 ∧ e.waits.Nodup ∧ ∀ x ∈ e.waits, x ∈ ws
  ds : ∀ e ∈ es, 1 ≤ e.ds.length ∧ e.ds.length ≤ md ∧ ∀ d ∈ e.ds, OfD (ws.drop k) ws ns deep d
theorem pss_two {X : Cx} {s1 s2 : Stmt} {sts : List Stmt} {D : Ends} {σ : St} {H : Hp} (φ : St → Hp → Prop) (h1 : ∃ tR, PSs X sts tR ∧ ∀ σ1 H1, φ σ1 H1 → tR D σ1 H1)
    (h2 : ∀ tR, PSs X sts tR → (∀ σ1 H1, φ σ1 H1 → tR D σ1 H1) → ∃ t, PSs X (s1 :: s2 :: sts) t ∧ t D σ H) : ∃ t, PSs X (s1 :: s2 :: sts) t ∧ t D σ H := by
  obtain ⟨tR, a, b⟩ := h1
  exact h2 tR a b
section
variable {P : Program} {w : World} {K : PySem.W.Frag} {mg : Str → Option Value} {base : Heap}
abbrev nmPlainG : List Str := ["pool", "many_processes", "many_deeds", "deep", "words", "taken", "written", "digits", "processes", "titles", "name", "waits", "deeds"]
theorem scPlainG : FnScope nmPlainG ["pool", "many_processes", "many_deeds", "deep"] (defScope sPlainG) := ⟨rfl, rfl, rfl, by decide +kernel, rfl, by decide +kernel, by decide +kernel⟩
def spPlainG (D : Nat) : Sp := fun vs H Q _ => ∃ (p : Addr) (mp md deep : Nat), vs = [.ref p, .int mp, .int md, .int deep] ∧ PoolAt H p ∧ 1 ≤ mp ∧ mp ≤ 5 ∧ 1 ≤ md ∧ md ≤ 900 ∧ 1 ≤ deep ∧ deep ≤ D ∧
  ∀ (H' : Hp) (r : Addr) (ws : List Str) (k : Nat) (ns : List Int) (es : List ProcD), PoolOff p H H' → H r = none → PlainV [p] H' (.ref r) es (ws.take k) → Gen mp md deep ws k ns es → onceE es ≤ 8 → Q (.ref r) H'
theorem ok_plaing {kT D : Nat} {f : Addr} {fd : FuncData} (F : Fun K "_law_plain" "_law_plain" sPlainG f fd) (T : BltT mg) (U : BltU mg) (k2 : 2 ≤ kT) (D1 : Has P w K mg base "_law_take" 1 ["pool", "bound"] spTake) (D2 : Has P w K mg base "_law_one" 2 ["pool", "things"] (spOne K)) (D3 : Has P w K mg base "_law_words" 3 ["pool", "bound"] spWordsN)
    (D4 : Has P w K mg base "_law_turned" 2 ["pool", "things"] spTurned) (D5 : Has P w K mg base "_law_deeds_drawn" (kT + 1) ["pool", "written", "words", "digits", "bound", "deep"] (spDrawn D)) (D6 : Has P w K mg base "_law_less_at_once" 1 ["plain"] spLess) :
    FnOk P w K mg base CX0 (kT + 2) f fd ["pool", "many_processes", "many_deeds", "deep"] (spPlainG D) := by
  obtain ⟨f1, fd1, m1, k1, b1, G1⟩ := D1
  obtain ⟨f2, fd2, m2, k2', b2, G2⟩ := D2
  obtain ⟨f3, fd3, m3, k3, b3, G3⟩ := D3
  obtain ⟨f4, fd4, m4, k4, b4, G4⟩ := D4
  obtain ⟨f5, fd5, m5, k5, b5, G5⟩ := D5
  obtain ⟨f6, fd6, m6, k6, b6, G6⟩ := D6
  refine F.ok scPlainG (fun vs H Q E h => ?_) (fun cdv A outer s H vs Q E hr h => ?_)
  · obtain ⟨p, mp, md, deep, rfl, _⟩ := h
    rfl
  obtain ⟨p, mp, md, deep, rfl, hp, mp1, mp5, md1, md9, dp1, dp2, q⟩ := h
  have r1 : Room 1 _ := hr.mono (by omega)
  have r2 : Room 2 _ := hr.mono (by omega)
  have r3 : Room 3 _ := hr.mono (by omega)
  refine pss_two (fun σ G => ∃ (lw lt : Addr) (ws : List Str) (k : Nat), σ = [some (.ref p), some (.int mp), some (.int md), some (.int deep), some (.ref lw), some (.ref lt), none, none, none, none, none, none, none] ∧ PoolOff p H G ∧ G lw = some (.lst (ws.map V.str)) ∧ G lt = some (.lst ((ws.take k).map V.str)) ∧ H lt = none ∧ H lw = none ∧ (∀ x ∈ ws, WordOk x ∧ x.length ≤ 5) ∧ ws.Nodup ∧ (ws.length = 3 ∨ ws.length = 4) ∧ (k = 1 ∨ (k = 2 ∧ ws.length = 4))) ?second fun tR hR rR => ?first
  case first =>
    refine ⟨_, pss_cons (ps_set (i := 4) scPlainG.nd rfl (.inl rfl) (pe_call G3 r3 rfl m3 k3 b3 .nil pass0 (pa_cons (pv 0) (pa_cons (pe_op op_add pe_int (pe_call G1 r1 rfl m1 k1 b1 .nil pass0 (pa_cons (pv 0) (pa_cons pe_int pa_nil)))) pa_nil))))
      (pss_cons (ps_set (i := 5) scPlainG.nd rfl (.inl rfl) (pe_slice sl_list (pv 4) po_none (po_some (pe_op op_add pe_int (pe_callTy call_int1 (by rfl) T.int (by decide +kernel) (pa_cons (pe_and (pe_cmpR op_gt (pe_callB call_len_seq (by rfl) T.len PySem.boot_len (pa_cons (pv 4) pa_nil)) pe_int (nomark _)) (pe_one (pe_cmpR op_eq (pe_call G1 r1 rfl m1 k1 b1 .nil pass0 (pa_cons (pv 0) (pa_cons pe_int pa_nil))) pe_int (nomark _)))) pa_nil)))))) hR), ?_⟩
    obtain ⟨x, y, ep, c0, y0, y1⟩ := id hp
    refine ⟨_, rfl, _, rfl, p, x, y, 2, rfl, ep, c0, y0, y1, by decide, by decide, fun r x' y' r0 rb e0 e1 e2 => ?_⟩
    have s1 : PoolOff p H (upd H p (.lst [.int x', .int y'])) := pool_upd e0 e1 e2
    generalize upd H p (.lst [.int x', .int y']) = H1 at s1
    obtain ⟨n, hn⟩ : ∃ n : Nat, 3 + r = (n : Int) := ⟨(3 + r).toNat, by omega⟩
    refine ⟨_, _, rfl, rfl, p, n, by show [V.ref p, V.int (3 + r)] = _; rw [hn], s1.2, by omega, fun H2 lw ws s2 nw hw lw3 wok wnd => ?_⟩
    have s02 := s1.trans s2
    have fin : ∀ (j : Int) (k : Nat) (G : Hp), 1 + j = (k : Int) → (k = 1 ∨ (k = 2 ∧ ws.length = 4)) → PoolOff p H2 G → ∀ lt, G lt = none → ∀ G', G' = upd G lt (.lst (cutV (ws.map V.str) none (some (1 + j)))) → tR { nx := fun _ H' => Q .non H', rt := Q } [some (.ref p), some (.int mp), some (.int md), some (.int deep), some (.ref lw), some (.ref lt), none, none, none, none, none, none, none] G' := by
      intro j k G hj hk sG lt hlt G' e
      have g : Same G G' := by rw [e]; exact same_upd hlt _
      refine rR _ _ ⟨lw, lt, ws, k, rfl, (s02.trans sG).trans ⟨Same.off g, sG.2.same g⟩, g _ _ (sG.1 _ _ hw (by simpa using s1.2.ne nw)), ?_, (s02.trans sG).free hlt, s1.free nw, wok, wnd, by omega, hk⟩
      rw [e, upd_same, hj, cut_take, List.map_take]
    refine ⟨_, rfl, _, rfl, lw, _, rfl, .inl (SqL.of hw), _, _, rfl, rfl, _, rfl, ?_⟩
    rw [List.length_map]
    refine ite2 (fun c => ?_) (fun c => ?_)
    · have c4 : ws.length = 4 := by
        have := of_decide_eq_true c
        omega
      obtain ⟨x, y, ep, c0, y0, y1⟩ := id s2.2
      refine ⟨_, rfl, p, x, y, 3, rfl, ep, c0, y0, y1, by decide, by decide, fun r' x' y' _ _ e0 e1 e2 => ⟨rfl, .inr ⟨decide (V.int r' = V.int 0), rfl, _, _, rfl, rfl, ⟨_, rfl, lw, ws.map V.str, rfl, ?_, fun lt hlt => ?_⟩⟩⟩⟩
      · exact SqL.of ((pool_upd e0 e1 e2 : PoolOff p H2 _).1 _ _ hw (by simpa using s1.2.ne nw))
      · by_cases cc : (decide (V.int r' = V.int 0)) = true
        · rw [if_pos cc]
          exact fin 1 2 _ rfl (.inr ⟨rfl, c4⟩) (pool_upd e0 e1 e2) lt hlt _ rfl
        · rw [if_neg cc]
          exact fin 0 1 _ rfl (.inl rfl) (pool_upd e0 e1 e2) lt hlt _ rfl
    · refine .inr ⟨false, rfl, _, _, rfl, rfl, ⟨_, rfl, lw, _, rfl, SqL.of hw, fun lt hlt => ?_⟩⟩
      exact fin 0 1 _ rfl (.inl rfl) ⟨SameOff.refl _ _, s2.2⟩ lt hlt _ rfl
  case second =>
    refine ⟨_, pss_cons (ps_set (i := 6) scPlainG.nd rfl (.inl rfl) (pe_slice sl_list (pv 4) (po_some (pe_callB call_len_seq (by rfl) T.len PySem.boot_len (pa_cons (pv 5) pa_nil))) po_none))
    (pss_cons (ps_set (i := 7) scPlainG.nd rfl (.inl rfl) (pe_call G2 r2 rfl m2 k2' b2 .nil pass0 (pa_cons (pv 0) (pa_cons (pe_lst (pa_cons (pe_lst pa_nil) (pa_cons (pe_lst (pa_cons pe_int pa_nil)) (pa_cons (pe_lst (pa_cons pe_int pa_nil)) (pa_cons (pe_lst (pa_cons pe_int (pa_cons pe_int pa_nil))) (pa_cons (pe_lst (pa_cons pe_int (pa_cons pe_int pa_nil))) pa_nil)))))) pa_nil))))
    (pss_cons (ps_set (i := 8) scPlainG.nd rfl (.inl rfl) (pe_lst pa_nil))
    (pss_cons (ps_set (i := 9) scPlainG.nd rfl (.inl rfl) (pe_call G2 r2 rfl m2 k2' b2 .nil pass0 (pa_cons (pv 0) (pa_cons (pe_lst (pa_cons (pe_lst (pa_cons pe_str (pa_cons pe_str (pa_cons pe_str (pa_cons pe_str (pa_cons pe_str pa_nil)))))) (pa_cons (pe_lst (pa_cons pe_str (pa_cons pe_str (pa_cons pe_str (pa_cons pe_str (pa_cons pe_str pa_nil)))))) pa_nil))) pa_nil))))
    (pss_cons (ps_for PassesOwn.never rfl (pi_list (pe_slice sl_list (pv 9) po_none (po_some (pe_op op_add pe_int (pe_call G1 r1 rfl m1 k1 b1 .nil pass0 (pa_cons (pv 0) (pa_cons (pv 1) pa_nil))))))) (pg_name (i := 10) scPlainG.nd rfl (.inl rfl))
      (pss_cons (ps_set (i := 11) scPlainG.nd rfl (.inl rfl) (pe_slice sl_list (pe_call G4 r2 rfl m4 k4 b4 .nil pass0 (pa_cons (pv 0) (pa_cons (pv 4) pa_nil))) po_none (po_some (pe_op op_add pe_int (pe_call G1 r1 rfl m1 k1 b1 .nil pass0 (pa_cons (pv 0) (pa_cons pe_int pa_nil)))))))
      (pss_cons (ps_set (i := 12) scPlainG.nd rfl (.inl rfl) (pe_call G5 hr rfl m5 k5 b5 .nil pass0 (pa_cons (pv 0) (pa_cons (pv 6) (pa_cons (pv 4) (pa_cons (pv 7) (pa_cons (pv 2) (pa_cons (pv 3) pa_nil))))))))
      (pss_one (ps_expr (pe_bm PySem.F.plainAttrs_list PySem.F.slot_list_append PySem.F.type_list_append mt_append (pv 8) (pa_cons (pe_tup (pa_cons (pv 10) (pa_cons (pv 11) (pa_cons (pv 12) pa_nil)))) pa_nil)))))))
    (pss_one (ps_ret (pe_call G6 r1 rfl m6 k6 b6 .nil pass0 (pa_cons (pe_disp (pps_cons pe_str (pv 8) (pps_cons pe_str (pv 5) pps_nil)) (by rfl) (by rfl) (fun z => by cases z) (by decide)) pa_nil)))))))), ?_⟩
    rintro σ G ⟨lw, lt, ws, k, rfl, sG, hw, ht, nt, nw, wok, wnd, w34, k12⟩
    refine ⟨_, rfl, _, rfl, lt, _, rfl, .inl (SqL.of ht), _, rfl, lw, _, rfl, SqL.of hw, fun lv hlv => ?_⟩
    have lk : k ≤ ws.length := by omega
    have ecut : cutV (ws.map V.str) (some ((((ws.take k).map V.str).length : Nat) : Int)) none = (ws.drop k).map V.str := by
      rw [List.length_map, List.length_take, Nat.min_eq_left lk, cut_drop, List.map_drop]
    rw [ecut]
    have glv : Same G (upd G lv (.lst ((ws.drop k).map V.str))) := same_upd hlv _
    have vlv : (upd G lv (.lst ((ws.drop k).map V.str))) lv = some (.lst ((ws.drop k).map V.str)) := upd_same
    have sG1 : PoolOff p H (upd G lv (.lst ((ws.drop k).map V.str))) := sG.trans ⟨Same.off glv, sG.2.same glv⟩
    replace hw := glv _ _ hw
    replace ht := glv _ _ ht
    have nlv : H lv = none := sG.free hlv
    clear glv hlv ecut
    generalize upd G lv (.lst ((ws.drop k).map V.str)) = G1 at *
    refine ⟨_, rfl, ?_⟩
    refine ⟨by show 0 ≤ sizeLine; decide, fun d1 hd1 => ?_⟩
    have gd1 : Same G1 (upd G1 d1 (.lst [])) := same_upd hd1 _
    have vd1 : (upd G1 d1 (.lst [])) d1 = some (.lst []) := upd_same
    replace hw := gd1 _ _ hw
    replace ht := gd1 _ _ ht
    replace vlv := gd1 _ _ vlv
    have nd1 : H d1 = none := sG1.free hd1
    have sJ1 : PoolOff p H (upd G1 d1 (.lst [])) := sG1.trans ⟨Same.off gd1, sG1.2.same gd1⟩
    clear gd1 hd1
    generalize upd G1 d1 (.lst []) = J1 at *
    refine ⟨by show 1 ≤ sizeLine; decide, fun d2 hd2 => ?_⟩
    have gd2 : Same J1 (upd J1 d2 (.lst [.int 0])) := same_upd hd2 _
    have vd2 : (upd J1 d2 (.lst [.int 0])) d2 = some (.lst [.int 0]) := upd_same
    replace hw := gd2 _ _ hw
    replace ht := gd2 _ _ ht
    replace vlv := gd2 _ _ vlv
    replace vd1 := gd2 _ _ vd1
    have nd2 : H d2 = none := sJ1.free hd2
    have sJ2 : PoolOff p H (upd J1 d2 (.lst [.int 0])) := sJ1.trans ⟨Same.off gd2, sJ1.2.same gd2⟩
    clear gd2 hd2
    generalize upd J1 d2 (.lst [.int 0]) = J2 at *
    refine ⟨by show 1 ≤ sizeLine; decide, fun d3 hd3 => ?_⟩
    have gd3 : Same J2 (upd J2 d3 (.lst [.int 1])) := same_upd hd3 _
    have vd3 : (upd J2 d3 (.lst [.int 1])) d3 = some (.lst [.int 1]) := upd_same
    replace hw := gd3 _ _ hw
    replace ht := gd3 _ _ ht
    replace vlv := gd3 _ _ vlv
    replace vd1 := gd3 _ _ vd1
    replace vd2 := gd3 _ _ vd2
    have nd3 : H d3 = none := sJ2.free hd3
    have sJ3 : PoolOff p H (upd J2 d3 (.lst [.int 1])) := sJ2.trans ⟨Same.off gd3, sJ2.2.same gd3⟩
    clear gd3 hd3
    generalize upd J2 d3 (.lst [.int 1]) = J3 at *
    refine ⟨by show 2 ≤ sizeLine; decide, fun d4 hd4 => ?_⟩
    have gd4 : Same J3 (upd J3 d4 (.lst [.int 0, .int 1])) := same_upd hd4 _
    have vd4 : (upd J3 d4 (.lst [.int 0, .int 1])) d4 = some (.lst [.int 0, .int 1]) := upd_same
    replace hw := gd4 _ _ hw
    replace ht := gd4 _ _ ht
    replace vlv := gd4 _ _ vlv
    replace vd1 := gd4 _ _ vd1
    replace vd2 := gd4 _ _ vd2
    replace vd3 := gd4 _ _ vd3
    have nd4 : H d4 = none := sJ3.free hd4
    have sJ4 : PoolOff p H (upd J3 d4 (.lst [.int 0, .int 1])) := sJ3.trans ⟨Same.off gd4, sJ3.2.same gd4⟩
    clear gd4 hd4
    generalize upd J3 d4 (.lst [.int 0, .int 1]) = J4 at *
    refine ⟨by show 2 ≤ sizeLine; decide, fun d5 hd5 => ?_⟩
    have gd5 : Same J4 (upd J4 d5 (.lst [.int 2, .int 7])) := same_upd hd5 _
    have vd5 : (upd J4 d5 (.lst [.int 2, .int 7])) d5 = some (.lst [.int 2, .int 7]) := upd_same
    replace hw := gd5 _ _ hw
    replace ht := gd5 _ _ ht
    replace vlv := gd5 _ _ vlv
    replace vd1 := gd5 _ _ vd1
    replace vd2 := gd5 _ _ vd2
    replace vd3 := gd5 _ _ vd3
    replace vd4 := gd5 _ _ vd4
    have nd5 : H d5 = none := sJ4.free hd5
    have sJ5 : PoolOff p H (upd J4 d5 (.lst [.int 2, .int 7])) := sJ4.trans ⟨Same.off gd5, sJ4.2.same gd5⟩
    clear gd5 hd5
    generalize upd J4 d5 (.lst [.int 2, .int 7]) = J5 at *
    refine ⟨by show 5 ≤ sizeLine; decide, fun ld hld => ?_⟩
    have gld : Same J5 (upd J5 ld (.lst [.ref d1, .ref d2, .ref d3, .ref d4, .ref d5])) := same_upd hld _
    have vld : (upd J5 ld (.lst [.ref d1, .ref d2, .ref d3, .ref d4, .ref d5])) ld = some (.lst [.ref d1, .ref d2, .ref d3, .ref d4, .ref d5]) := upd_same
    replace hw := gld _ _ hw
    replace ht := gld _ _ ht
    replace vlv := gld _ _ vlv
    replace vd1 := gld _ _ vd1
    replace vd2 := gld _ _ vd2
    replace vd3 := gld _ _ vd3
    replace vd4 := gld _ _ vd4
    replace vd5 := gld _ _ vd5
    have nld : H ld = none := sJ5.free hld
    have sJ6 : PoolOff p H (upd J5 ld (.lst [.ref d1, .ref d2, .ref d3, .ref d4, .ref d5])) := sJ5.trans ⟨Same.off gld, sJ5.2.same gld⟩
    clear gld hld
    generalize upd J5 ld (.lst [.ref d1, .ref d2, .ref d3, .ref d4, .ref d5]) = J6 at *
    have nep : ∀ {b : Addr}, H b = none → b ≠ p := fun h => hp.ne h
    refine ⟨p, .ref ld, rfl, sJ6.2, .inl ⟨ld, _, rfl, nep nld, SqL.of vld, by show 0 < 5; decide, by show 5 ≤ 1000; decide, fun H1 i v hv s1 => ?_⟩⟩
    have sn : ∀ {b : Addr} {o : HO}, J6 b = some o → H b = none → H1 b = some o := fun h n => s1.1 _ _ h (by simpa using nep n)
    obtain ⟨lg, ns, rfl, hns, hlg, nlg⟩ : ∃ (lg : Addr) (ns : List Int), v = .ref lg ∧ ns ∈ digs5 ∧ H1 lg = some (.lst (ns.map V.int)) ∧ H lg = none := by
      rcases i with _ | _ | _ | _ | _ | i <;> simp at hv <;> subst hv
      · exact ⟨d1, [], rfl, by simp [digs5], sn vd1 nd1, nd1⟩
      · exact ⟨d2, [0], rfl, by simp [digs5], sn vd2 nd2, nd2⟩
      · exact ⟨d3, [1], rfl, by simp [digs5], sn vd3 nd3, nd3⟩
      · exact ⟨d4, [0, 1], rfl, by simp [digs5], sn vd4 nd4, nd4⟩
      · exact ⟨d5, [2, 7], rfl, by simp [digs5], sn vd5 nd5, nd5⟩
    replace hw := sn hw nw
    replace ht := sn ht nt
    replace vlv := sn vlv nlv
    have sH1 := sJ6.trans s1
    clear vd1 vd2 vd3 vd4 vd5 vld sn sJ6 sJ5 sJ4 sJ3 sJ2 sJ1 sG1 hv
    refine ⟨by show 0 ≤ sizeLine; decide, fun lp hlp => ?_⟩
    have wlp : lw ≠ lp := ne_of_none hw hlp
    have tlp : lt ≠ lp := ne_of_none ht hlp
    have vlp' : lv ≠ lp := ne_of_none vlv hlp
    have glp' : lg ≠ lp := ne_of_none hlg hlp
    have glp : Same H1 (upd H1 lp (.lst [])) := same_upd hlp _
    have vlp : (upd H1 lp (.lst [])) lp = some (.lst []) := upd_same
    replace hw := glp _ _ hw
    replace ht := glp _ _ ht
    replace vlv := glp _ _ vlv
    replace hlg := glp _ _ hlg
    have nlp : H lp = none := sH1.free hlp
    have sL1 : PoolOff p H (upd H1 lp (.lst [])) := sH1.trans ⟨Same.off glp, sH1.2.same glp⟩
    clear glp hlp
    generalize upd H1 lp (.lst []) = L1 at *
    refine ⟨_, rfl, ?_⟩
    refine ⟨by show 5 ≤ sizeLine; decide, fun u1 hu1 => ?_⟩
    have gu1 : Same L1 (upd L1 u1 (.lst [.str "p", .str "q", .str "r", .str "s", .str "t"])) := same_upd hu1 _
    have vu1 : (upd L1 u1 (.lst [.str "p", .str "q", .str "r", .str "s", .str "t"])) u1 = some (.lst [.str "p", .str "q", .str "r", .str "s", .str "t"]) := upd_same
    replace hw := gu1 _ _ hw
    replace ht := gu1 _ _ ht
    replace vlv := gu1 _ _ vlv
    replace hlg := gu1 _ _ hlg
    replace vlp := gu1 _ _ vlp
    have nu1 : H u1 = none := sL1.free hu1
    have sM1 : PoolOff p H (upd L1 u1 (.lst [.str "p", .str "q", .str "r", .str "s", .str "t"])) := sL1.trans ⟨Same.off gu1, sL1.2.same gu1⟩
    clear gu1 hu1
    generalize upd L1 u1 (.lst [.str "p", .str "q", .str "r", .str "s", .str "t"]) = M1 at *
    refine ⟨by show 5 ≤ sizeLine; decide, fun u2 hu2 => ?_⟩
    have gu2 : Same M1 (upd M1 u2 (.lst [.str "t", .str "s", .str "r", .str "q", .str "p"])) := same_upd hu2 _
    have vu2 : (upd M1 u2 (.lst [.str "t", .str "s", .str "r", .str "q", .str "p"])) u2 = some (.lst [.str "t", .str "s", .str "r", .str "q", .str "p"]) := upd_same
    replace hw := gu2 _ _ hw
    replace ht := gu2 _ _ ht
    replace vlv := gu2 _ _ vlv
    replace hlg := gu2 _ _ hlg
    replace vlp := gu2 _ _ vlp
    replace vu1 := gu2 _ _ vu1
    have nu2 : H u2 = none := sM1.free hu2
    have sM2 : PoolOff p H (upd M1 u2 (.lst [.str "t", .str "s", .str "r", .str "q", .str "p"])) := sM1.trans ⟨Same.off gu2, sM1.2.same gu2⟩
    clear gu2 hu2
    generalize upd M1 u2 (.lst [.str "t", .str "s", .str "r", .str "q", .str "p"]) = M2 at *
    refine ⟨by show 2 ≤ sizeLine; decide, fun lu hlu => ?_⟩
    have glu : Same M2 (upd M2 lu (.lst [.ref u1, .ref u2])) := same_upd hlu _
    have vlu : (upd M2 lu (.lst [.ref u1, .ref u2])) lu = some (.lst [.ref u1, .ref u2]) := upd_same
    replace hw := glu _ _ hw
    replace ht := glu _ _ ht
    replace vlv := glu _ _ vlv
    replace hlg := glu _ _ hlg
    replace vlp := glu _ _ vlp
    replace vu1 := glu _ _ vu1
    replace vu2 := glu _ _ vu2
    have nlu : H lu = none := sM2.free hlu
    have sM3 : PoolOff p H (upd M2 lu (.lst [.ref u1, .ref u2])) := sM2.trans ⟨Same.off glu, sM2.2.same glu⟩
    clear glu hlu
    generalize upd M2 lu (.lst [.ref u1, .ref u2]) = M3 at *
    refine ⟨p, .ref lu, rfl, sM3.2, .inl ⟨lu, _, rfl, nep nlu, SqL.of vlu, by show 0 < 2; decide, by show 2 ≤ 1000; decide, fun H2 i v hv s2 => ?_⟩⟩
    have sn : ∀ {b : Addr} {o : HO}, M3 b = some o → H b = none → H2 b = some o := fun h n => s2.1 _ _ h (by simpa using nep n)
    obtain ⟨ti, tt, rfl, htt, hti, nti⟩ : ∃ (ti : Addr) (tt : List Str), v = .ref ti ∧ (tt = ups ∨ tt = downs) ∧ H2 ti = some (.lst (tt.map V.str)) ∧ H ti = none := by
      rcases i with _ | _ | i <;> simp at hv <;> subst hv
      · exact ⟨u1, ups, rfl, .inl rfl, sn vu1 nu1, nu1⟩
      · exact ⟨u2, downs, rfl, .inr rfl, sn vu2 nu2, nu2⟩
    replace hw := sn hw nw
    replace ht := sn ht nt
    replace vlv := sn vlv nlv
    replace hlg := sn hlg nlg
    replace vlp := sn vlp nlp
    have sH2 := sM3.trans s2
    clear vu1 vu2 vlu sn sL1 sM1 sM2 sM3 hv sH1 s1 s2
    obtain ⟨x, y, ep, c0, y0, y1⟩ := id sH2.2
    refine ⟨_, rfl, _, rfl, _, rfl, p, x, y, mp, rfl, ep, c0, y0, y1, by omega, by omega, fun r x' y' r0 rb e0 e1 e2 => ?_⟩
    have s3 : PoolOff p H2 (upd H2 p (.lst [.int x', .int y'])) := pool_upd e0 e1 e2
    generalize upd H2 p (.lst [.int x', .int y']) = H3 at s3
    have sn : ∀ {b : Addr} {o : HO}, H2 b = some o → H b = none → H3 b = some o := fun h n => s3.1 _ _ h (by simpa using nep n)
    replace hw := sn hw nw
    replace ht := sn ht nt
    replace vlv := sn vlv nlv
    replace hlg := sn hlg nlg
    replace vlp := sn vlp nlp
    replace hti := sn hti nti
    have sH3 := sH2.trans s3
    clear sn ep sH2 s3
    obtain ⟨n, hn⟩ : ∃ n : Nat, 1 + r = (n : Int) := ⟨(1 + r).toNat, by omega⟩
    refine ⟨_, _, rfl, rfl, _, rfl, ti, _, rfl, SqL.of hti, fun c hc => ?_⟩
    have ecut : cutV (tt.map V.str) none (some (1 + r)) = (tt.take n).map V.str := by rw [hn, cut_take, List.map_take]
    rw [ecut]
    have t5 : tt.length = 5 := by rcases htt with rfl | rfl <;> rfl
    have hn5 : n ≤ mp := by omega
    have g4 : Same H3 (upd H3 c (.lst ((tt.take n).map V.str))) := same_upd hc _
    have vc : (upd H3 c (.lst ((tt.take n).map V.str))) c = some (.lst ((tt.take n).map V.str)) := upd_same
    have nc : H c = none := sH3.free hc
    have cp : c ≠ lp := (ne_of_none vlp hc).symm
    have sH4 : PoolOff p H (upd H3 c (.lst ((tt.take n).map V.str))) := sH3.trans ⟨Same.off g4, sH3.2.same g4⟩
    replace hw := g4 _ _ hw
    replace ht := g4 _ _ ht
    replace vlv := g4 _ _ vlv
    replace hlg := g4 _ _ hlg
    replace vlp := g4 _ _ vlp
    clear hti g4 hc sH3 ecut
    generalize upd H3 c (.lst ((tt.take n).map V.str)) = H4 at *
    have keep : ∀ {G : Hp} {b : Addr} {o : HO}, SameOff [p, lp] H4 G → H4 b = some o → H b = none → b ≠ lp → G b = some o := fun s h n m => s _ _ h (by simpa using ⟨nep n, m⟩)
    have dg9 : ∀ n ∈ ns, (0 : Int) ≤ n ∧ n ≤ 9 := by
      have h : ∀ l ∈ digs5, ∀ n ∈ l, (0 : Int) ≤ n ∧ n ≤ 9 := by decide
      exact h ns hns
    have dl9 : ns.length ≤ 1000 := by
      have h : ∀ l ∈ digs5, l.length ≤ 1000 := by decide
      exact h ns hns
    refine ⟨c, rfl, ⟨_, SqL.of vc⟩, ?_⟩
    refine for_list (K := K) (xs := (tt.take n).map V.str) (fun i σ G => (∃ e10 e11 e12 : Option V, σ = [some (.ref p), some (.int mp), some (.int md), some (.int deep), some (.ref lw), some (.ref lt), some (.ref lv), some (.ref lg), some (.ref lp), some (.ref ti), e10, e11, e12]) ∧ PoolOff p H G ∧ SameOff [p, lp] H4 G ∧ ∃ (ys : List V) (es : List ProcD), G lp = some (.lst ys) ∧ ys.length = i ∧ Each (EntryV [p, lp]) G ys es ∧ es.map (·.name) = tt.take i ∧
      (∀ e ∈ es, 1 ≤ e.waits.length ∧ e.waits.length ≤ 2 ∧ e.waits.Nodup ∧ ∀ x ∈ e.waits, x ∈ ws) ∧ ∀ e ∈ es, 1 ≤ e.ds.length ∧ e.ds.length ≤ md ∧ ∀ d ∈ e.ds, OfD (ws.drop k) ws ns deep d) ⟨⟨none, none, none, rfl⟩, sH4, SameOff.refl _ _, [], [], vlp, rfl, Each.nil, rfl, by simp, by simp⟩ (fun i σ G hi z => ?_) (fun i x σ G hx z => ?_) (fun σ G z => ?_)
    · exact SqL.of (keep z.2.2.1 vc nc cp)
    · obtain ⟨⟨e10, e11, e12, rfl⟩, sG, s4, ys, es, hlp, ly, hE, hnm, hwt, hds⟩ := z
      obtain ⟨nm, hnm', rfl⟩ := map_at hx
      have ht0 : tt[i]? = some nm := by
        rw [List.getElem?_take] at hnm'
        split at hnm'
        · exact hnm'
        · cases hnm'
      have i5 : i < 5 := by
        have := (List.getElem?_eq_some_iff.mp ht0).1
        omega
      have wlen : ws.length ≤ 1000 := by omega
      have hwG := keep s4 hw nw wlp
      refine ⟨_, rfl, _, rfl, p, lw, ws, rfl, sG.2, nep nw, hwG, fun x hx => plain_word (wok x hx).1, wlen, fun H5 r5 ts s5 nr5 hr5 pm => ?_⟩
      obtain ⟨x, y, ep, c0, y0, y1⟩ := id s5.2
      refine ⟨_, rfl, p, x, y, 2, rfl, ep, c0, y0, y1, by decide, by decide, fun r' x' y' r0' rb' e0 e1 e2 => ?_⟩
      have s6 : PoolOff p H5 (upd H5 p (.lst [.int x', .int y'])) := pool_upd e0 e1 e2
      have r5p : r5 ≠ p := sG.2.ne nr5
      have hr6 := s6.1 _ _ hr5 (by simpa using r5p)
      generalize upd H5 p (.lst [.int x', .int y']) = H6 at s6 hr6
      obtain ⟨m, hm⟩ : ∃ m : Nat, 1 + r' = (m : Int) := ⟨(1 + r').toNat, by omega⟩
      refine ⟨_, _, rfl, rfl, _, rfl, r5, _, rfl, SqL.of hr6, fun l7 hl7 => ?_⟩
      have ecut : cutV (ts.map V.str) none (some (1 + r')) = (ts.take m).map V.str := by rw [hm, cut_take, List.map_take]
      rw [ecut]
      have g7 : Same H6 (upd H6 l7 (.lst ((ts.take m).map V.str))) := same_upd hl7 _
      have v7 : (upd H6 l7 (.lst ((ts.take m).map V.str))) l7 = some (.lst ((ts.take m).map V.str)) := upd_same
      have l7p : l7 ≠ p := s6.2.ne hl7
      have s57 : PoolOff p G (upd H6 l7 (.lst ((ts.take m).map V.str))) := s5.trans (s6.trans ⟨Same.off g7, s6.2.same g7⟩)
      have lpp : lp ≠ p := nep nlp
      have lp6 := (s5.trans s6).1 _ _ hlp (by simpa using lpp)
      have l7lp : l7 ≠ lp := (ne_of_none lp6 hl7).symm
      have lp7 := g7 _ _ lp6
      generalize upd H6 l7 (.lst ((ts.take m).map V.str)) = H7 at s57 v7 lp7
      have wide : ∀ {A B : Hp}, SameOff [p] A B → SameOff [p, lp] A B := fun s b o e n => s b o e (by simp at n ⊢; exact n.1)
      have s47 : SameOff [p, lp] H4 H7 := s4.trans (wide s57.1)
      refine ⟨_, rfl, _, rfl, _, rfl, _, rfl, _, rfl, _, rfl, p, lv, lw, lg, ws.drop k, ws, ns, md, deep, rfl, s57.2, ⟨keep s47 hw nw wlp, keep s47 hlg nlg glp', nep nw, nep nlg, by omega, wlen, dl9, fun x hx => (wok x hx).1, dg9⟩, nep nlv, keep s47 vlv nlv vlp', by rw [List.length_drop]; omega, by rw [List.length_drop]; omega, md1, md9, dp1, dp2, fun H8 rd zs ds s8 nrd hrd hZ z1 z2 hO => ?_⟩
      have lp8 := s8.1 _ _ lp7 (by simpa using lpp)
      have rdp : rd ≠ p := s57.2.ne nrd
      have rdlp : rd ≠ lp := (ne_of_none lp7 nrd).symm
      have v8 := s8.1 _ _ v7 (by simpa using l7p)
      refine ⟨_, rfl, .inl ⟨rfl, _, SqL.of lp8⟩, _, rfl, _, rfl, _, rfl, by show 3 ≤ sizeLine; decide, fun t ht' => ?_⟩
      have g9 : Same H8 (upd H8 t (.tup [.str nm, .ref l7, .ref rd])) := same_upd ht' _
      have t9 : (upd H8 t (.tup [.str nm, .ref l7, .ref rd])) t = some (.tup [.str nm, .ref l7, .ref rd]) := upd_same
      have s59 : PoolOff p G (upd H8 t (.tup [.str nm, .ref l7, .ref rd])) := (s57.trans s8).trans ⟨Same.off g9, s8.2.same g9⟩
      generalize upd H8 t (.tup [.str nm, .ref l7, .ref rd]) = H9 at g9 t9 s59
      have lp9 := g9 _ _ lp8
      have lst2 : ∀ {A : Hp} {zs : List V}, PoolAt A p → A lp = some (.lst zs) → Lists [p, lp] A := fun ha hb b mb => by
        simp only [List.mem_cons, List.not_mem_nil, or_false] at mb
        rcases mb with rfl | rfl
        · exact ha.lst
        · exact ⟨_, hb⟩
      have LG := lst2 sG.2 hlp
      have L9 := lst2 s59.2 lp9
      have o9 : SameOff [p, lp] H9 (upd H9 lp (.lst (ys ++ [.ref t]))) := off_upd (SameOff.refl _ _) (by simp)
      have tnd : ts.Nodup := pm.nodup_iff.mpr wnd
      have tl : ts.length = ws.length := pm.length_eq
      refine ⟨lp, ys, _, rfl, rfl, lp9, small1000 (by omega), ⟨_, _, _, rfl⟩, ?_, s4.trans ((wide s59.1).trans o9), ys ++ [.ref t], es ++ [⟨nm, ts.take m, ds⟩], upd_same, by simp [ly], ?_, ?_, ?_, ?_⟩
      · refine ⟨fun b o e nb => ?_, ?_⟩
        · rw [upd_ne (ne_of_none e nlp)]
          exact (sG.trans s59).1 b o e nb
        · obtain ⟨u', v', e, rr⟩ := s59.2
          exact ⟨u', v', by rw [upd_ne lpp.symm]; exact e, rr⟩
      · exact Each.snoc (hE.imp fun v e h => (h.off (wide s59.1) LG).off o9 L9) ((show EntryV [p, lp] H9 (.ref t) ⟨nm, ts.take m, ds⟩ from ⟨t, l7, rd, zs, rfl, t9, g9 _ _ v8, g9 _ _ hrd, hZ.imp fun v d h => h.same g9, by simp [l7p, l7lp], by simp [rdp, rdlp]⟩).off o9 L9)
      · rw [List.map_append, hnm, take_snoc ht0]
        rfl
      · intro e he
        rcases List.mem_append.mp he with he | he
        · exact hwt e he
        · rw [List.mem_singleton.mp he]
          refine ⟨?_, ?_, tnd.sublist (List.take_sublist _ _), fun x hx => pm.mem_iff.mp (List.mem_of_mem_take hx)⟩
          · show 1 ≤ (ts.take m).length
            rw [List.length_take]
            omega
          · show (ts.take m).length ≤ 2
            rw [List.length_take]
            omega
      · intro e he
        rcases List.mem_append.mp he with he | he
        · exact hds e he
        · rw [List.mem_singleton.mp he]
          exact ⟨z1, z2, hO⟩
    · obtain ⟨⟨e10, e11, e12, rfl⟩, sG, s4, ys, es, hlp, ly, hE, hnm, hwt, hds⟩ := z
      have ltn : (tt.take n).length = n := by
        rw [List.length_take]
        omega
      rw [List.length_map, ltn] at hnm ly
      have le : es.length = n := by
        have := congrArg List.length hnm
        simp only [List.length_map, List.length_take] at this
        omega
      have LG : Lists [p] G := pool_lists sG.2
      have htG := keep s4 ht nt tlp
      have lpp : lp ≠ p := nep nlp
      have ltp : lt ≠ p := nep nt
      refine fun q0 hq0 => ⟨_, rfl, _, rfl, upd_same, [(.inr "processes", .ref lp), (.inr "inputs", .ref lt)], rfl, by simp, ?_⟩
      have g5 : Same G (upd (upd G q0 (.dK [])) q0 (.dK (mergeK [] [(.inr "processes", .ref lp), (.inr "inputs", .ref lt)]))) := fun c o e => by
        rw [upd_ne (ne_of_none e hq0), upd_ne (ne_of_none e hq0)]
        exact e
      have vq : (upd (upd G q0 (.dK [])) q0 (.dK (mergeK [] [(.inr "processes", .ref lp), (.inr "inputs", .ref lt)]))) q0 = some (.dK [(.inr "processes", .ref lp), (.inr "inputs", .ref lt)]) := upd_same
      generalize upd (upd G q0 (.dK [])) q0 (.dK (mergeK [] [(.inr "processes", .ref lp), (.inr "inputs", .ref lt)])) = G5 at g5 vq
      have sG5 : PoolOff p G G5 := ⟨Same.off g5, sG.2.same g5⟩
      refine ⟨q0, es, ws.take k, [p], rfl, pool_lists sG5.2, ⟨q0, lp, lt, ys, rfl, vq, g5 _ _ hlp, hE.imp fun v e h => (h.sub (fun x hx => by simp at hx; simp [hx])).same g5, g5 _ _ htG, by simpa using lpp, by simpa using ltp⟩, by omega, fun e he => by have := (hds e he).2.1; omega, fun H6 r6 es' s6 nr6 hP hL hO8 => ?_⟩
      have nm' := hL.names
      refine q H6 r6 ws k ns es' ((sG.trans sG5).trans ⟨Same.off s6, sG5.2.same s6⟩) ((sG.trans sG5).free nr6) hP ⟨wok, wnd, w34, k12, hns, ?_, by rw [hL.1]; omega, by rw [hL.1]; omega, fun e' he' => ?_, fun e' he' => ?_⟩ hO8
      · rw [nm', hnm, hL.1, le]
        rcases htt with rfl | rfl
        · exact .inl rfl
        · exact .inr rfl
      · obtain ⟨e, he, hle⟩ := hL.mem e' he'
        rw [hle.waits]
        exact hwt e he
      · obtain ⟨e, he, hle⟩ := hL.mem e' he'
        have h3 := hds e he
        refine ⟨by rw [hle.ds.1]; exact h3.1, by rw [hle.ds.1]; exact h3.2.1, fun d' hd' => ?_⟩
        obtain ⟨j, hj, ej⟩ := List.getElem_of_mem hd'
        have hd0 : e.ds[j]? = some (e.ds[j]'(by rw [← hle.ds.1]; exact hj)) := List.getElem?_eq_getElem _
        have hm := h3.2.2 _ (List.mem_of_getElem? hd0)
        obtain ⟨x1, x2, _⟩ := hle.ds.2 j _ d' hd0 (by rw [← ej]; exact List.getElem?_eq_getElem hj)
        exact ⟨by rw [x1]; exact hm.x, by rw [x2]; exact hm.fine, by rw [x2]; exact hm.deep, by rw [x2]; exact hm.words, by rw [x2]; exact hm.nums⟩
end
end TS
namespace TS
open PySem L2
section
variable {P : Program} {w : World} {K : PySem.W.Frag} {mg : Str → Option Value} {base : Heap}
/-! _law_tree_text -/
abbrev nmLText : List Str := ["tree", "near", "far", "yes", "no", "part"]
theorem scLText : FnScope nmLText ["tree"] (defScope sLText) := ⟨rfl, rfl, rfl, by decide +kernel, rfl, by decide +kernel, by decide +kernel⟩
theorem text_plus (a b c d : Tr) : ("(" : Str) ++ a.text ++ "=" ++ b.text ++ "?" ++ c.text ++ ":" ++ d.text ++ ")" = (Tr.ch a b c d).text := by
  apply str_ext
  have e2 : ("(" : Str).cps.toList = [40] := by decide +kernel
  have e3 : ("=" : Str).cps.toList = [61] := by decide +kernel
  have e4 : ("?" : Str).cps.toList = [63] := by decide +kernel
  have e5 : (":" : Str).cps.toList = [58] := by decide +kernel
  have e6 : (")" : Str).cps.toList = [41] := by decide +kernel
  rw [codes_ch]
  simp only [codes_append, e2, e3, e4, e5, e6, List.append_assoc, List.nil_append, List.cons_append]
theorem ok_ltext {n : Nat} {f : Addr} {fd : FuncData} (F : Fun K "_law_tree_text" "_law_tree_text" sLText f fd) (T : BltT mg) (b : Binds K fd ["tree"] []) (m : mg "_law_tree_text" = some (.ref f)) (G : FnOk P w K mg base CX0 n f fd ["tree"] (spText n)) :
    FnOk P w K mg base CX0 (n + 1) f fd ["tree"] (spText (n + 1)) := by
  refine F.ok scLText (fun vs H Q E h => ?_) (fun cdv A outer s H vs Q E hr h => ?_)
  · obtain ⟨v, t, rfl, _⟩ := h
    rfl
  obtain ⟨v, t, rfl, ht, hsm, hd, hlen, q⟩ := h
  refine ⟨_, pss_cons (ps_if (pt_val (pe_callB call_isi (by rfl) T.isi bIsi (pa_cons (pv 0) (pa_cons (pe_bltn (by rfl) T.tup (v := .ty "tuple") (by decide +kernel) rfl) pa_nil))))
      (pss_cons (ps_asg (pe_lc (own := [("part", 5)]) (g := gName 5) (tt := tYes) (by rfl) scLText.nd (pi_tup (pv 0)) (blkOk_by (own := [("part", 5)]) (N := nmLText) (sc := defScope sLText) (by decide +kernel)) (fun _ _ _ _ _ => pg_name (i := 5) scLText.nd rfl (Or.inl rfl)) (fun _ _ _ _ _ => pts_nil)
        (fun _ _ _ _ _ => pe_call G hr rfl m F.kp b .nil pass0 (pa_cons (pv 5) pa_nil)))
      (pg_lst (by rfl) (pgs_cons (pg_name (i := 1) scLText.nd rfl (.inl rfl)) (pgs_cons (pg_name (i := 2) scLText.nd rfl (.inl rfl)) (pgs_cons (pg_name (i := 3) scLText.nd rfl (.inl rfl)) (pgs_cons (pg_name (i := 4) scLText.nd rfl (.inl rfl)) pgs_nil))))))
      (pss_one (ps_ret (pe_op op_add_str (pe_op op_add_str (pe_op op_add_str (pe_op op_add_str (pe_op op_add_str (pe_op op_add_str (pe_op op_add_str (pe_op op_add_str pe_str (pv 1)) pe_str) (pv 2)) pe_str) (pv 3)) pe_str) (pv 4)) pe_str)))) pss_nil)
    (pss_one (ps_ret (pe_callTy (cr_or call_str_int SkE.call_str_str) (by rfl) T.str (by decide +kernel) (pa_cons (pv 0) pa_nil)))), ?_⟩
  obtain ⟨u, c, hty, hk, hc⟩ := isT (K := K) ht
  refine ⟨_, rfl, _, _, _, _, _, rfl, .ty "tuple", hty, hk, _, rfl, ?_⟩
  rcases hc with ⟨rfl, a, b', c, d, rfl⟩ | ⟨rfl, hc⟩
  · refine iteT ?_
    cases ht with
    | ch hp ha hb hc hdd =>
      rename_i p y0 y1 y2 y3
      have tl := text_len hlen
      have dd : a.deep ≤ n ∧ b'.deep ≤ n ∧ c.deep ≤ n ∧ d.deep ≤ n := by
        simp only [Tr.deep] at hd
        omega
      obtain ⟨s1, s2, s3, s4⟩ := hsm
      refine ⟨_, rfl, p, rfl, ⟨_, SqT.of hp⟩, fun D hD => lc_mapT (ys := [.str a.text, .str b'.text, .str c.text, .str d.text]) hp rfl (by show 4 ≤ 1000; decide) hD (fun _ => rfl) (fun i x y H1 R hx hy s1' hR => ?_) (fun H1 g1 hD1 => ?_)⟩
      · refine ⟨_, rfl, ?_⟩
        rcases i with _ | _ | _ | _ | i
        · cases hx
          cases hy
          exact ⟨_, a, rfl, ha.same s1', s1, dd.1, by omega, hR⟩
        · cases hx
          cases hy
          exact ⟨_, b', rfl, hb.same s1', s2, dd.2.1, by omega, hR⟩
        · cases hx
          cases hy
          exact ⟨_, c, rfl, hc.same s1', s3, dd.2.2.1, by omega, hR⟩
        · cases hx
          cases hy
          exact ⟨_, d, rfl, hdd.same s1', s4, dd.2.2.2, by omega, hR⟩
        · simp at hx
      · have e2 : ("(" : Str).length = 1 := by decide +kernel
        have e3 : ("=" : Str).length = 1 := by decide +kernel
        have e4 : ("?" : Str).length = 1 := by decide +kernel
        have e5 : (":" : Str).length = 1 := by decide +kernel
        have e6 : (")" : Str).length = 1 := by decide +kernel
        have big : 100000 ≤ sizeLine := by decide
        have L : ∀ {k : Nat}, k ≤ 100000 → k ≤ sizeLine := fun h => Nat.le_trans h big
        refine ⟨D, _, rfl, SqL.of hD1, rfl, ?_⟩
        refine ⟨_, _, rfl, _, _, rfl, _, _, rfl, _, _, rfl, rfl, ?_⟩
        refine ⟨_, rfl, _, _, rfl, rfl, L (by omega), _, _, rfl, rfl, L (by simp only [Str.length_append]; omega), _, rfl, _, _, rfl, rfl, L (by simp only [Str.length_append]; omega), _, _, rfl, rfl, L (by simp only [Str.length_append]; omega), _, rfl, _, _, rfl, rfl, L (by simp only [Str.length_append]; omega), _, _, rfl, rfl, L (by simp only [Str.length_append]; omega), _, rfl, _, _, rfl, rfl, L (by simp only [Str.length_append]; omega), _, _, rfl, rfl, L (by simp only [Str.length_append]; omega), ?_⟩
        have q1 := q H1 g1
        rw [← text_plus] at q1
        exact q1
  · refine iteF ?_
    rcases hc with ⟨k, rfl, rfl⟩ | ⟨x, rfl, rfl⟩
    · refine ⟨_, rfl, .inl ⟨k, rfl, ?_, q H (Same.refl H)⟩⟩
      have z : k.natAbs ≤ 9 := by
        have := hsm.1
        have := hsm.2
        omega
      exact Nat.lt_of_le_of_lt (Nat.log2_le_self _) (by omega)
    · exact ⟨_, rfl, .inr ⟨x, rfl, q H (Same.refl H)⟩⟩
end
end TS
namespace TS
open PySem L2
abbrev sDText : Stmt := top 109
theorem deed_plus (x : Str) (l : Bool) (t : Tr) : x ++ (if l = true then " <= " else " := " : Str) ++ t.text = deedText x l t := by
  apply str_ext
  unfold deedText
  rw [str_app_nil]
  have e1 : (" <= " : Str).cps.toList = (" " : Str).cps.toList ++ (("<=" : Str).cps.toList ++ (" " : Str).cps.toList) := by decide +kernel
  have e2 : (" := " : Str).cps.toList = (" " : Str).cps.toList ++ ((":=" : Str).cps.toList ++ (" " : Str).cps.toList) := by decide +kernel
  cases l with
  | true =>
    rw [if_pos rfl, if_pos rfl]
    simp only [codes_append, e1, List.append_assoc]
  | false =>
    rw [if_neg Bool.false_ne_true, if_neg Bool.false_ne_true]
    simp only [codes_append, e2, List.append_assoc]
theorem nodup_len {α : Type} [DecidableEq α] : ∀ (l ws : List α), l.Nodup → (∀ x ∈ l, x ∈ ws) → l.length ≤ ws.length
  | [], _, _, _ => Nat.zero_le _
  | x :: r, ws, h, hs => by
    rw [List.nodup_cons] at h
    have hx : x ∈ ws := hs x (by simp)
    have ih := nodup_len r (ws.erase x) h.2 fun y hy => by
      have hn : y ≠ x := fun e => h.1 (by rw [← e]; exact hy)
      exact (List.mem_erase_of_ne hn).mpr (hs y (by simp [hy]))
    have hl : (ws.erase x).length = ws.length - 1 := List.length_erase_of_mem hx
    have : 0 < ws.length := List.length_pos_of_mem hx
    simp only [List.length_cons]
    omega
theorem titles_ok : ∀ n ∈ ups ++ downs, WordOk n ∧ n ≠ "turn" := by
  have h : ∀ n ∈ ups ++ downs, wordOk n = true ∧ n ≠ "turn" := by decide +kernel
  exact fun n hn => ⟨wordOk_iff.mp (h n hn).1, (h n hn).2⟩
theorem Gen.title {mp md deep k : Nat} {ws : List Str} {ns : List Int} {es : List ProcD} (g : Gen mp md deep ws k ns es) : ∀ e ∈ es, e.name ∈ ups ++ downs := fun e he => by
  have hm : e.name ∈ es.map (·.name) := List.mem_map.mpr ⟨e, he, rfl⟩
  rcases g.names with h | h
  · rw [h] at hm
    exact List.mem_append.mpr (.inl (List.mem_of_mem_take hm))
  · rw [h] at hm
    exact List.mem_append.mpr (.inr (List.mem_of_mem_take hm))
theorem Gen.ok {mp md deep k : Nat} {ws : List Str} {ns : List Int} {es : List ProcD} (g : Gen mp md deep ws k ns es) (h4 : md ≤ 4) (h3 : deep ≤ 3) : ∀ e ∈ es, e.Ok := fun e he => by
  have ht := titles_ok _ (g.title e he)
  obtain ⟨w1, w2, wn, wm⟩ := g.waits e he
  obtain ⟨d1, d2, dm⟩ := g.ds e he
  have hw := g.w34
  have n2 : ns.length ≤ 2 := by
    have h : ∀ l ∈ digs5, l.length ≤ 2 := by decide
    exact h ns g.dg
  refine ⟨ht.1, ht.2, w1, by omega, fun x hx => (g.wok x (wm x hx)).1, wn, d1, by omega, fun d hd => ⟨(g.wok _ (List.mem_of_mem_drop (dm d hd).x)).1, (dm d hd).fine, Nat.le_trans (dm d hd).deep h3⟩, fun l nd hl => ?_, fun l nd hl => ?_⟩
  · have := nodup_len l ws nd fun x hx => by
      obtain ⟨d, hd, hxd⟩ := hl x hx
      exact (dm d hd).words x hxd
    omega
  · have := nodup_len l ns nd fun x hx => by
      obtain ⟨d, hd, hxd⟩ := hl x hx
      exact (dm d hd).nums x hxd
    omega
section
variable {P : Program} {w : World} {K : PySem.W.Frag} {mg : Str → Option Value} {base : Heap}
theorem scDText : FnScope ["deed"] ["deed"] (defScope sDText) := ⟨rfl, rfl, rfl, by decide +kernel, rfl, by decide +kernel, by decide +kernel⟩
def spDText : Sp := fun vs H Q _ => ∃ (v : V) (d : DeedD), vs = [v] ∧ DeedV H v d ∧ d.Ok ∧ ∀ H', Same H H' → Q (.str d.text) H'
theorem ok_dtext {f : Addr} {fd : FuncData} (F : Fun K "_law_deed_text" "_law_deed_text" sDText f fd) (D1 : Has P w K mg base "_law_tree_text" 3 ["tree"] (spText 3)) : FnOk P w K mg base CX0 4 f fd ["deed"] spDText := by
  obtain ⟨f1, fd1, m1, k1, b1, G1⟩ := D1
  refine F.ok scDText (fun vs H Q E h => ?_) (fun cdv A outer s H vs Q E hr h => ?_)
  · obtain ⟨v, d, rfl, _⟩ := h
    rfl
  obtain ⟨v, d, rfl, hd, ok, q⟩ := h
  refine ⟨_, pss_one (ps_ret (pe_op op_add_str (pe_op op_add_str (pe_ix ix_tup (pv 0) pe_int (fun _ _ => rfl)) (pe_ifExp (pt_val (pe_ix ix_tup (pv 0) pe_int (fun _ _ => rfl))) pe_str pe_str)) (pe_call G1 hr rfl m1 k1 b1 .nil pass0 (pa_cons (pe_ix ix_tup (pv 0) pe_int (fun _ _ => rfl)) pa_nil)))), ?_⟩
  obtain ⟨a, tv, rfl, ha, ht⟩ := hd
  have lx : d.x.length ≤ 8 := ok.1.2.1
  have t315 := text315 ok.2.1 ok.2.2
  refine ⟨_, rfl, a, _, _, _, rfl, rfl, SqT.of ha, atI_nat (j := 0) rfl, ?_⟩
  have sm : ∀ {n : Nat}, n ≤ 1000 → n ≤ sizeLine := fun h => Nat.le_trans h (by decide)
  have l1 : (" <= " : Str).length = 4 := by decide +kernel
  have l2 : (" := " : Str).length = 4 := by decide +kernel
  have dp := deed_plus d.x d.l d.t
  refine ⟨_, rfl, a, _, _, _, rfl, rfl, SqT.of ha, atI_nat (j := 1) rfl, d.l, rfl, ?_⟩
  cases hl : d.l with
  | true =>
    rw [hl, if_pos rfl] at dp
    refine iteT ⟨_, _, rfl, rfl, sm (by rw [l1]; omega), _, rfl, a, _, _, _, rfl, rfl, SqT.of ha, atI_nat (j := 2) rfl, tv, d.t, rfl, ht, ok.2.1.small, ok.2.2, by omega, fun H' s' => ⟨_, _, rfl, rfl, sm (by rw [Str.length_append, l1]; omega), ?_⟩⟩
    rw [dp]
    have e : deedText d.x true d.t = d.text := by rw [← hl]; rfl
    rw [e]
    exact q H' s'
  | false =>
    rw [hl, if_neg Bool.false_ne_true] at dp
    refine iteF ⟨_, _, rfl, rfl, sm (by rw [l2]; omega), _, rfl, a, _, _, _, rfl, rfl, SqT.of ha, atI_nat (j := 2) rfl, tv, d.t, rfl, ht, ok.2.1.small, ok.2.2, by omega, fun H' s' => ⟨_, _, rfl, rfl, sm (by rw [Str.length_append, l2]; omega), ?_⟩⟩
    rw [dp]
    have e : deedText d.x false d.t = d.text := by rw [← hl]; rfl
    rw [e]
    exact q H' s'
end
end TS
namespace TS
open PySem L2
abbrev sMadeP : Stmt := top 114
section
variable {P : Program} {w : World} {K : PySem.W.Frag} {mg : Str → Option Value} {base : Heap}
/-! _law_made_process -/
/-- the class Process, made by its __init__ -/
def HasProc (P : Program) (w : World) (K : PySem.W.Frag) (mg : Str → Option Value) (base : Heap) (PC CD C : Addr) : Prop :=
  ∃ (f : Addr) (fd : FuncData), Mk K PC f ∧ Binds K fd ["self", "name", "waits", "deeds"] [] ∧ FnOk P w K mg base CX0 19 f fd ["self", "name", "waits", "deeds"] (spPInit PC CD C)
theorem proc_at {PC CD C : Addr} {H : Hp} {pd : ProcD} {qw qd : Addr} {Z : VK} {E : XK} (ok : pd.Ok) (hw : H qw = some (.lst (pd.waits.map V.str))) (hd : H qd = some (.lst (pd.ds.map fun d => V.str d.text))) {a dx : Addr} (na : H a = none) (nd : H dx = none) (ne : dx ≠ a)
    (q : ∀ H', Same H H' → (∀ Ds, Lists Ds H → ∀ G, SameOff Ds H' G → ProcAt PC CD C G a pd) → Z .non H') : spPInit PC CD C [.ref a, .str pd.name, .ref qw, .ref qd] (upd (upd H dx (.own a)) a (.ins PC dx [])) Z E := by
  have s0 : Same H (upd (upd H dx (.own a)) a (.ins PC dx [])) := fun b o e => by
    rw [upd_ne (ne_of_none e na), upd_ne (ne_of_none e nd)]
    exact e
  exact ⟨a, dx, qw, qd, pd, rfl, upd_same, ok, s0 _ _ hw, s0 _ _ hd, fun H' sx ht => q H' (fun b o e => sx b o (s0 b o e) (ne_of_none e na)) fun Ds hDs => ht Ds fun D m => let ⟨xs, e⟩ := hDs D m; ⟨xs, s0 _ _ e⟩⟩
abbrev nmMadeP : List Str := ["entry", "deed"]
theorem scMadeP : FnScope nmMadeP ["entry"] (defScope sMadeP) := ⟨rfl, rfl, rfl, by decide +kernel, rfl, by decide +kernel, by decide +kernel⟩
def spMadeP (PC CD C : Addr) : Sp := fun vs H Q _ => ∃ (v : V) (e : ProcD) (Ds : List Addr), vs = [v] ∧ EntryV Ds H v e ∧ e.Ok ∧ ∀ H' a, Same H H' → H a = none → (∀ Ds, Lists Ds H → ∀ G, SameOff Ds H' G → ProcAt PC CD C G a e) → Q (.ref a) H'
theorem ok_madep {PC CD C f : Addr} {fd : FuncData} (F : Fun K "_law_made_process" "_law_made_process" sMadeP f fd) (PK : ProcK K mg PC) (D1 : Has P w K mg base "_law_deed_text" 4 ["deed"] spDText) (D2 : HasProc P w K mg base PC CD C) : FnOk P w K mg base CX0 21 f fd ["entry"] (spMadeP PC CD C) := by
  obtain ⟨f1, fd1, m1, k1, b1, G1⟩ := D1
  obtain ⟨f2, fd2, M2, b2, G2⟩ := D2
  refine F.ok scMadeP (fun vs H Q E h => ?_) (fun cdv A outer s H vs Q E hr h => ?_)
  · obtain ⟨v, e, Ds, rfl, _⟩ := h
    rfl
  obtain ⟨v, e, Ds, rfl, hv, ok, q⟩ := h
  have r4 : Room 4 _ := hr.mono (by decide)
  refine ⟨_, pss_one (ps_ret (pe_make M2 G2 hr rfl PK.mgC b2 .nil pass0 (pa_cons (pe_ix ix_tup (pv 0) pe_int (fun _ _ => rfl)) (pa_cons (pe_ix ix_tup (pv 0) pe_int (fun _ _ => rfl)) (pa_cons
    (pe_lc (own := [("deed", 1)]) (g := gName 1) (tt := tYes) (by rfl) scMadeP.nd (pi_list (pe_ix ix_tup (pv 0) pe_int (fun _ _ => rfl))) (blkOk_by (own := [("deed", 1)]) (N := nmMadeP) (sc := defScope sMadeP) (by decide +kernel)) (fun _ _ _ _ _ => pg_name (i := 1) scMadeP.nd rfl (Or.inl rfl)) (fun _ _ _ _ _ => pts_nil)
      (fun _ _ _ _ _ => pe_call G1 r4 rfl m1 k1 b1 .nil pass0 (pa_cons (pv 1) pa_nil))) pa_nil))))), ?_⟩
  obtain ⟨q0, lw, ld, ys, rfl, hq, hw, hd, hE, _, _⟩ := hv
  have lE := hE.1
  have d4 := ok.d4
  refine ⟨_, rfl, q0, _, _, _, rfl, rfl, SqT.of hq, atI_nat (j := 0) rfl, _, rfl, q0, _, _, _, rfl, rfl, SqT.of hq, atI_nat (j := 1) rfl, _, rfl, q0, _, _, _, rfl, rfl, SqT.of hq, atI_nat (j := 2) rfl, ld, rfl, ⟨_, SqL.of hd⟩, fun D hD => lc_eachL (K := K) (fun _ v (d : DeedD) => v = .str d.text) (ts := e.ds) hd lE.symm (by omega) hD (fun _ => rfl) (fun i v d H1 G hv hd' s1 hL hG => ?_) (fun H1 zs s1 d1 e1 => ?_)⟩
  · exact ⟨_, rfl, v, d, rfl, (hE.2 i v d hv hd').same s1, ok.dok d (List.mem_of_getElem? hd'), fun H2 s2 => hG _ H2 s2 fun _ _ => rfl⟩
  · have ez : zs = e.ds.map fun d => V.str d.text := by
      refine List.ext_getElem? fun i => ?_
      rw [List.getElem?_map]
      by_cases c : i < zs.length
      · have hd0 : e.ds[i]? = some (e.ds[i]'(by rw [← e1.1]; exact c)) := List.getElem?_eq_getElem _
        rw [hd0, List.getElem?_eq_getElem c, e1.2 i _ _ (List.getElem?_eq_getElem c) hd0]
        rfl
      · rw [List.getElem?_eq_none (by omega), List.getElem?_eq_none (by rw [← e1.1]; omega)]
        rfl
    rw [ez] at d1
    intro a dx na nd ne
    exact proc_at ok (s1 _ _ hw) d1 na nd ne fun H2 s2 hT => ⟨rfl, q H2 a (s1.trans s2) (s1.free na) fun Ds hDs => hT Ds fun D m => let ⟨xs, e⟩ := hDs D m; ⟨xs, s1 _ _ e⟩⟩
end
end TS
namespace TS
open PySem L2
abbrev sPWaits : Stmt := (inClass (top 55) 7)
abbrev sPDeeds : Stmt := (inClass (top 55) 8)
abbrev sPReads : Stmt := (inClass (top 55) 10)
abbrev sPWrites : Stmt := (inClass (top 55) 11)
abbrev sPCons : Stmt := (inClass (top 55) 12)
abbrev sPName : Stmt := (inClass (top 55) 6)
abbrev sPLen : Stmt := (inClass (top 55) 2)
abbrev sDLate : Stmt := (inClass (top 52) 6)
theorem pfs_name (n : Str) (lw ld lr lt lc : Addr) : (pfs n lw ld lr lt lc).lookup ("_name" : Str) = some (.str n) := by
  unfold pfs
  rw [lookup_putF, if_neg (by decide +kernel)]
  rw [lookup_putF, if_neg (by decide +kernel)]
  rw [lookup_putF, if_neg (by decide +kernel)]
  rw [lookup_putF, if_neg (by decide +kernel)]
  rw [lookup_putF, if_neg (by decide +kernel)]
  rw [lookup_putF, if_pos rfl]
theorem pfs_waits (n : Str) (lw ld lr lt lc : Addr) : (pfs n lw ld lr lt lc).lookup ("_waits" : Str) = some (.ref lw) := by
  unfold pfs
  rw [lookup_putF, if_neg (by decide +kernel)]
  rw [lookup_putF, if_neg (by decide +kernel)]
  rw [lookup_putF, if_neg (by decide +kernel)]
  rw [lookup_putF, if_neg (by decide +kernel)]
  rw [lookup_putF, if_pos rfl]
theorem pfs_deeds (n : Str) (lw ld lr lt lc : Addr) : (pfs n lw ld lr lt lc).lookup ("_deeds" : Str) = some (.ref ld) := by
  unfold pfs
  rw [lookup_putF, if_neg (by decide +kernel)]
  rw [lookup_putF, if_neg (by decide +kernel)]
  rw [lookup_putF, if_neg (by decide +kernel)]
  rw [lookup_putF, if_pos rfl]
theorem pfs_reads (n : Str) (lw ld lr lt lc : Addr) : (pfs n lw ld lr lt lc).lookup ("_reads" : Str) = some (.ref lr) := by
  unfold pfs
  rw [lookup_putF, if_neg (by decide +kernel)]
  rw [lookup_putF, if_neg (by decide +kernel)]
  rw [lookup_putF, if_pos rfl]
theorem pfs_writes (n : Str) (lw ld lr lt lc : Addr) : (pfs n lw ld lr lt lc).lookup ("_writes" : Str) = some (.ref lt) := by
  unfold pfs
  rw [lookup_putF, if_neg (by decide +kernel)]
  rw [lookup_putF, if_pos rfl]
theorem pfs_constants (n : Str) (lw ld lr lt lc : Addr) : (pfs n lw ld lr lt lc).lookup ("_constants" : Str) = some (.ref lc) := by
  unfold pfs
  rw [lookup_putF, if_pos rfl]
theorem ProcAt.same {PC CD C a : Addr} {H H' : Hp} {p : ProcD} (h : ProcAt PC CD C H a p) (s : Same H H') : ProcAt PC CD C H' a p := by
  obtain ⟨ok, dx, lw, ld, lr, lt, lc, as, rs, ts, cs, h1, h2, h3, h4, h5, h6, h7, h8, h9, h10, h11⟩ := h
  exact ⟨ok, dx, lw, ld, lr, lt, lc, as, rs, ts, cs, s _ _ h1, s _ _ h2, s _ _ h3, h4, fun i a d x y => (h5 i a d x y).same s, s _ _ h6, h7, s _ _ h8, h9, s _ _ h10, h11⟩
section
variable {P : Program} {w : World} {K : PySem.W.Frag} {mg : Str → Option Value} {base : Heap}
def spPName (PC CD C : Addr) : Sp := fun vs H Q _ => ∃ (a : Addr) (p : ProcD), vs = [.ref a] ∧ ProcAt PC CD C H a p ∧ Q (.str p.name) H
theorem scPName : FnScope ["self"] ["self"] (defScope sPName) := ⟨rfl, rfl, rfl, by decide +kernel, rfl, by decide +kernel, by decide +kernel⟩
theorem ok_pname {PC CD C f : Addr} {fd : FuncData} (F : Fun K "name" "Process.name" sPName f fd) (PK : ProcK K mg PC) : FnOk P w K mg base CX0 1 f fd ["self"] (spPName PC CD C) := by
  refine F.ok scPName (fun vs H Q E h => ?_) (fun cdv A outer s H vs Q E hr h => ?_)
  · obtain ⟨a, p, rfl, _⟩ := h
    rfl
  obtain ⟨a, p, rfl, hp, q⟩ := h
  refine ⟨_, pss_one (ps_ret (pe_fld (pv 0) rfl)), ?_⟩
  obtain ⟨ok, dx, lw, ld, lr, lt, lc, as, rs, ts, cs, h1, _⟩ := hp
  exact ⟨_, rfl, a, PC, dx, _, _, rfl, h1, PK.cl, PK.n1, pfs_name _ _ _ _ _ _, q⟩
def spPWaits (PC CD C : Addr) : Sp := fun vs H Q _ => ∃ (a : Addr) (p : ProcD), vs = [.ref a] ∧ ProcAt PC CD C H a p ∧ ∀ l, H l = none → Q (.ref l) (upd H l (.lst (p.waits.map V.str)))
theorem scPWaits : FnScope ["self"] ["self"] (defScope sPWaits) := ⟨rfl, rfl, rfl, by decide +kernel, rfl, by decide +kernel, by decide +kernel⟩
theorem ok_pwaits {PC CD C f : Addr} {fd : FuncData} (F : Fun K "waits" "Process.waits" sPWaits f fd) (ml : mg "list" = none) (PK : ProcK K mg PC) : FnOk P w K mg base CX0 1 f fd ["self"] (spPWaits PC CD C) := by
  refine F.ok scPWaits (fun vs H Q E h => ?_) (fun cdv A outer s H vs Q E hr h => ?_)
  · obtain ⟨a, p, rfl, _⟩ := h
    rfl
  obtain ⟨a, p, rfl, hp, q⟩ := h
  refine ⟨_, pss_one (ps_ret (pe_callTy call_list_of (by rfl) ml (by decide +kernel) (pa_cons (pe_fld (pv 0) rfl) pa_nil))), ?_⟩
  obtain ⟨ok, dx, lw, ld, lr, lt, lc, as, rs, ts, cs, h1, h2, h3, h4, h5, h6, h7, h8, h9, h10, h11⟩ := hp
  exact ⟨_, rfl, a, PC, dx, _, _, rfl, h1, PK.cl, PK.n2, pfs_waits _ _ _ _ _ _, lw, _, rfl, .inl (SqL.of h2), q⟩
def spPDeeds (PC CD C : Addr) : Sp := fun vs H Q _ => ∃ (a : Addr) (p : ProcD) (H0 : Hp), vs = [.ref a] ∧ ProcAt PC CD C H0 a p ∧ Same H0 H ∧ ∀ (l : Addr) (as : List Addr), H l = none → as.length = p.ds.length → (∀ (i : Nat) b d, as[i]? = some b → p.ds[i]? = some d → DAt CD C H0 b d) → Q (.ref l) (upd H l (.lst (as.map V.ref)))
theorem scPDeeds : FnScope ["self"] ["self"] (defScope sPDeeds) := ⟨rfl, rfl, rfl, by decide +kernel, rfl, by decide +kernel, by decide +kernel⟩
theorem ok_pdeeds {PC CD C f : Addr} {fd : FuncData} (F : Fun K "deeds" "Process.deeds" sPDeeds f fd) (ml : mg "list" = none) (PK : ProcK K mg PC) : FnOk P w K mg base CX0 1 f fd ["self"] (spPDeeds PC CD C) := by
  refine F.ok scPDeeds (fun vs H Q E h => ?_) (fun cdv A outer s H vs Q E hr h => ?_)
  · obtain ⟨a, p, H0, rfl, _⟩ := h
    rfl
  obtain ⟨a, p, H0, rfl, hp, s0, q⟩ := h
  refine ⟨_, pss_one (ps_ret (pe_callTy call_list_of (by rfl) ml (by decide +kernel) (pa_cons (pe_fld (pv 0) rfl) pa_nil))), ?_⟩
  obtain ⟨ok, dx, lw, ld, lr, lt, lc, as, rs, ts, cs, h1, h2, h3, h4, h5, h6, h7, h8, h9, h10, h11⟩ := hp
  exact ⟨_, rfl, a, PC, dx, _, _, rfl, s0 _ _ h1, PK.cl, PK.n3, pfs_deeds _ _ _ _ _ _, ld, _, rfl, .inl (SqL.of (s0 _ _ h3)), fun l hl => q l as hl h4 h5⟩
def spPReads (PC CD C : Addr) : Sp := fun vs H Q _ => ∃ (a : Addr) (p : ProcD), vs = [.ref a] ∧ ProcAt PC CD C H a p ∧ ∀ (l : Addr) (rs : List Str), H l = none → SetS' rs p.read → Q (.ref l) (upd H l (.lst (rs.map V.str)))
theorem scPReads : FnScope ["self"] ["self"] (defScope sPReads) := ⟨rfl, rfl, rfl, by decide +kernel, rfl, by decide +kernel, by decide +kernel⟩
theorem ok_preads {PC CD C f : Addr} {fd : FuncData} (F : Fun K "reads" "Process.reads" sPReads f fd) (ml : mg "list" = none) (PK : ProcK K mg PC) : FnOk P w K mg base CX0 1 f fd ["self"] (spPReads PC CD C) := by
  refine F.ok scPReads (fun vs H Q E h => ?_) (fun cdv A outer s H vs Q E hr h => ?_)
  · obtain ⟨a, p, rfl, _⟩ := h
    rfl
  obtain ⟨a, p, rfl, hp, q⟩ := h
  refine ⟨_, pss_one (ps_ret (pe_callTy call_list_of (by rfl) ml (by decide +kernel) (pa_cons (pe_fld (pv 0) rfl) pa_nil))), ?_⟩
  obtain ⟨ok, dx, lw, ld, lr, lt, lc, as, rs, ts, cs, h1, h2, h3, h4, h5, h6, h7, h8, h9, h10, h11⟩ := hp
  exact ⟨_, rfl, a, PC, dx, _, _, rfl, h1, PK.cl, PK.n4, pfs_reads _ _ _ _ _ _, lr, _, rfl, .inl (SqL.of h6), fun l hl => q l rs hl h7⟩
def spPWrites (PC CD C : Addr) : Sp := fun vs H Q _ => ∃ (a : Addr) (p : ProcD), vs = [.ref a] ∧ ProcAt PC CD C H a p ∧ ∀ (l : Addr) (ts : List Str), H l = none → SetS' ts p.written → Q (.ref l) (upd H l (.lst (ts.map V.str)))
theorem scPWrites : FnScope ["self"] ["self"] (defScope sPWrites) := ⟨rfl, rfl, rfl, by decide +kernel, rfl, by decide +kernel, by decide +kernel⟩
theorem ok_pwrites {PC CD C f : Addr} {fd : FuncData} (F : Fun K "writes" "Process.writes" sPWrites f fd) (ml : mg "list" = none) (PK : ProcK K mg PC) : FnOk P w K mg base CX0 1 f fd ["self"] (spPWrites PC CD C) := by
  refine F.ok scPWrites (fun vs H Q E h => ?_) (fun cdv A outer s H vs Q E hr h => ?_)
  · obtain ⟨a, p, rfl, _⟩ := h
    rfl
  obtain ⟨a, p, rfl, hp, q⟩ := h
  refine ⟨_, pss_one (ps_ret (pe_callTy call_list_of (by rfl) ml (by decide +kernel) (pa_cons (pe_fld (pv 0) rfl) pa_nil))), ?_⟩
  obtain ⟨ok, dx, lw, ld, lr, lt, lc, as, rs, ts, cs, h1, h2, h3, h4, h5, h6, h7, h8, h9, h10, h11⟩ := hp
  exact ⟨_, rfl, a, PC, dx, _, _, rfl, h1, PK.cl, PK.n5, pfs_writes _ _ _ _ _ _, lt, _, rfl, .inl (SqL.of h8), fun l hl => q l ts hl h9⟩
def spPCons (PC CD C : Addr) : Sp := fun vs H Q _ => ∃ (a : Addr) (p : ProcD), vs = [.ref a] ∧ ProcAt PC CD C H a p ∧ ∀ (l : Addr) (cs : List Int), H l = none → SetI' cs p.const → Q (.ref l) (upd H l (.lst (cs.map V.int)))
theorem scPCons : FnScope ["self"] ["self"] (defScope sPCons) := ⟨rfl, rfl, rfl, by decide +kernel, rfl, by decide +kernel, by decide +kernel⟩
theorem ok_pcons {PC CD C f : Addr} {fd : FuncData} (F : Fun K "constants" "Process.constants" sPCons f fd) (ml : mg "list" = none) (PK : ProcK K mg PC) : FnOk P w K mg base CX0 1 f fd ["self"] (spPCons PC CD C) := by
  refine F.ok scPCons (fun vs H Q E h => ?_) (fun cdv A outer s H vs Q E hr h => ?_)
  · obtain ⟨a, p, rfl, _⟩ := h
    rfl
  obtain ⟨a, p, rfl, hp, q⟩ := h
  refine ⟨_, pss_one (ps_ret (pe_callTy call_list_of (by rfl) ml (by decide +kernel) (pa_cons (pe_fld (pv 0) rfl) pa_nil))), ?_⟩
  obtain ⟨ok, dx, lw, ld, lr, lt, lc, as, rs, ts, cs, h1, h2, h3, h4, h5, h6, h7, h8, h9, h10, h11⟩ := hp
  exact ⟨_, rfl, a, PC, dx, _, _, rfl, h1, PK.cl, PK.n6, pfs_constants _ _ _ _ _ _, lc, _, rfl, .inl (SqL.of h10), fun l hl => q l cs hl h11⟩
def spPLen (PC CD C : Addr) : Sp := fun vs H Q _ => ∃ (a : Addr) (p : ProcD), vs = [.ref a] ∧ ProcAt PC CD C H a p ∧ Q (.int p.ds.length) H
theorem scPLen : FnScope ["self"] ["self"] (defScope sPLen) := ⟨rfl, rfl, rfl, by decide +kernel, rfl, by decide +kernel, by decide +kernel⟩
theorem ok_plen {PC CD C f : Addr} {fd : FuncData} (F : Fun K "__len__" "Process.__len__" sPLen f fd) (T : BltT mg) (PK : ProcK K mg PC) : FnOk P w K mg base CX0 1 f fd ["self"] (spPLen PC CD C) := by
  refine F.ok scPLen (fun vs H Q E h => ?_) (fun cdv A outer s H vs Q E hr h => ?_)
  · obtain ⟨a, p, rfl, _⟩ := h
    rfl
  obtain ⟨a, p, rfl, hp, q⟩ := h
  refine ⟨_, pss_one (ps_ret (pe_callB call_len_seq (by rfl) T.len PySem.boot_len (pa_cons (pe_fld (pv 0) rfl) pa_nil))), ?_⟩
  obtain ⟨ok, dx, lw, ld, lr, lt, lc, as, rs, ts, cs, h1, h2, h3, h4, h5, h6, h7, h8, h9, h10, h11⟩ := hp
  refine ⟨_, rfl, a, PC, dx, _, _, rfl, h1, PK.cl, PK.n3, pfs_deeds _ _ _ _ _ _, ld, _, rfl, .inl (SqL.of h3), ?_⟩
  rw [List.length_map, h4]
  exact q
def spDLate (CD C : Addr) : Sp := fun vs H Q _ => ∃ (a : Addr) (d : DeedD), vs = [.ref a] ∧ DAt CD C H a d ∧ Q (.bl d.l) H
theorem scDLate : FnScope ["self"] ["self"] (defScope sDLate) := ⟨rfl, rfl, rfl, by decide +kernel, rfl, by decide +kernel, by decide +kernel⟩
theorem ok_dlate {C CD f : Addr} {fd : FuncData} (F : Fun K "late" "Deed.late" sDLate f fd) (DK : DeedK K mg CD) : FnOk P w K mg base CX0 1 f fd ["self"] (spDLate CD C) := by
  refine F.ok scDLate (fun vs H Q E h => ?_) (fun cdv A outer s H vs Q E hr h => ?_)
  · obtain ⟨a, d, rfl, _⟩ := h
    rfl
  obtain ⟨a, d, rfl, hd, q⟩ := h
  refine ⟨_, pss_one (ps_ret (pe_fld (pv 0) rfl)), ?_⟩
  obtain ⟨hw, dx, p, e, ht⟩ := hd
  exact ⟨_, rfl, a, CD, dx, _, _, rfl, e, DK.cl, DK.n3, dfs_late _ _ _ _, q⟩
end
end TS
namespace TS
open PySem L2
open Classical in
noncomputable def preads (p : ProcD) : List Str := if h : ∃ rs, SetS' rs p.read then Classical.choose h else []
open Classical in
noncomputable def pwrites (p : ProcD) : List Str := if h : ∃ rs, SetS' rs p.written then Classical.choose h else []
open Classical in
noncomputable def pcons (p : ProcD) : List Int := if h : ∃ rs, SetI' rs p.const then Classical.choose h else []
theorem preads_eq {p : ProcD} {rs : List Str} (h : SetS' rs p.read) : rs = preads p ∧ SetS' (preads p) p.read := by
  have e : preads p = Classical.choose (⟨rs, h⟩ : ∃ rs, SetS' rs p.read) := dif_pos ⟨rs, h⟩
  have g := Classical.choose_spec (⟨rs, h⟩ : ∃ rs, SetS' rs p.read)
  rw [e]
  exact ⟨h.same g, g⟩
theorem pwrites_eq {p : ProcD} {rs : List Str} (h : SetS' rs p.written) : rs = pwrites p ∧ SetS' (pwrites p) p.written := by
  have e : pwrites p = Classical.choose (⟨rs, h⟩ : ∃ rs, SetS' rs p.written) := dif_pos ⟨rs, h⟩
  have g := Classical.choose_spec (⟨rs, h⟩ : ∃ rs, SetS' rs p.written)
  rw [e]
  exact ⟨h.same g, g⟩
theorem pcons_eq {p : ProcD} {rs : List Int} (h : SetI' rs p.const) : rs = pcons p ∧ SetI' (pcons p) p.const := by
  have e : pcons p = Classical.choose (⟨rs, h⟩ : ∃ rs, SetI' rs p.const) := dif_pos ⟨rs, h⟩
  have g := Classical.choose_spec (⟨rs, h⟩ : ∃ rs, SetI' rs p.const)
  rw [e]
  exact ⟨h.same g, g⟩
theorem ProcAt.sets {PC CD C a : Addr} {H : Hp} {p : ProcD} (h : ProcAt PC CD C H a p) : SetS' (preads p) p.read ∧ SetS' (pwrites p) p.written ∧ SetI' (pcons p) p.const := by
  obtain ⟨ok, dx, lw, ld, lr, lt, lc, as, rs, ts, cs, h1, h2, h3, h4, h5, h6, h7, h8, h9, h10, h11⟩ := h
  exact ⟨(preads_eq h7).2, (pwrites_eq h9).2, (pcons_eq h11).2⟩
theorem nodup_len' {α : Type} [DecidableEq α] : ∀ (l ws : List α), l.Nodup → (∀ x ∈ l, x ∈ ws) → l.length ≤ ws.length
  | [], _, _, _ => Nat.zero_le _
  | x :: r, ws, h, hs => by
    rw [List.nodup_cons] at h
    have hx : x ∈ ws := hs x (by simp)
    have ih := nodup_len' r (ws.erase x) h.2 fun y hy => by
      have hn : y ≠ x := fun e => h.1 (by rw [← e]; exact hy)
      exact (List.mem_erase_of_ne hn).mpr (hs y (by simp [hy]))
    have hl : (ws.erase x).length = ws.length - 1 := List.length_erase_of_mem hx
    have : 0 < ws.length := List.length_pos_of_mem hx
    simp only [List.length_cons]
    omega
theorem ProcAt.lens {PC CD C a : Addr} {H : Hp} {p : ProcD} (h : ProcAt PC CD C H a p) : (preads p).length < 64 ∧ (pwrites p).length ≤ 4 ∧ (pcons p).length < 64 := by
  obtain ⟨s1, s2, s3⟩ := h.sets
  refine ⟨h.ok.few _ s1.nd fun x hx => (s1.mem x).mp hx, ?_, h.ok.fewN _ s3.nd fun x hx => (s3.mem x).mp hx⟩
  have := nodup_len' (pwrites p) (p.ds.map (·.x)) s2.nd fun x hx => by
    obtain ⟨d, hd, e⟩ := (s2.mem x).mp hx
    rw [e]
    exact List.mem_map.mpr ⟨d, hd, rfl⟩
  rw [List.length_map] at this
  have := h.ok.d4
  omega
/-- a name that is none of a Process's attributes -/
def noP (m : Str) : Bool := !(decide (m = "_name") || decide (m = "_waits") || decide (m = "_deeds") || decide (m = "_reads") || decide (m = "_writes") || decide (m = "_constants"))
theorem pfs_no {m : Str} {n : Str} {lw ld lr lt lc : Addr} (h : noP m = true) : (pfs n lw ld lr lt lc).lookup m = none := by
  unfold noP at h
  simp only [Bool.not_eq_true', Bool.or_eq_false_iff, decide_eq_false_iff_not] at h
  obtain ⟨⟨⟨⟨⟨h1, h2⟩, h3⟩, h4⟩, h5⟩, h6⟩ := h
  unfold pfs
  rw [lookup_putF, if_neg h6, lookup_putF, if_neg h5, lookup_putF, if_neg h4, lookup_putF, if_neg h3, lookup_putF, if_neg h2, lookup_putF, if_neg h1]
  rfl
/-- a list of Processes -/
def ProcsAt (PC CD C : Addr) (H : Hp) (q : Addr) (ps : List ProcD) : Prop := ∃ as : List Addr, H q = some (.lst (as.map V.ref)) ∧ as.length = ps.length ∧ ∀ (i : Nat) a p, as[i]? = some a → ps[i]? = some p → ProcAt PC CD C H a p
theorem ProcsAt.same {PC CD C q : Addr} {H H' : Hp} {ps : List ProcD} (h : ProcsAt PC CD C H q ps) (s : Same H H') : ProcsAt PC CD C H' q ps := by
  obtain ⟨as, h1, h2, h3⟩ := h
  exact ⟨as, s _ _ h1, h2, fun i a p x y => (h3 i a p x y).same s⟩
/-- what stands in the processes and inputs -/
def VarOf (ps : List ProcD) (ins : List Str) (x : Str) : Prop := (∃ p ∈ ps, x ∈ p.waits ∨ p.read x ∨ p.written x) ∨ x ∈ ins
def ConOf (ps : List ProcD) (n : Int) : Prop := ∃ p ∈ ps, p.const n
section
variable {P : Program} {w : World} {K : PySem.W.Frag} {mg : Str → Option Value} {base : Heap}
structure ProcT (K : PySem.W.Frag) (mg : Str → Option Value) (PC : Addr) : Prop extends ProcK K mg PC where
  ha : PySem.W.findIn K (.ref PC) "__class__" = some (some (.builtin "object.__class__"))
  hn : PySem.W.specialIn K (.builtin "object.__class__") "__get__" = some (some (.builtin "getset_descriptor.__get__"))
  htk : PySem.W.takesIn K (.builtin "object.__class__") = some true
  hm : PySem.W.mroIn K PC (.type "object") = some true
  kP : PySem.W.kitOne K (.ref PC) (.ref PC) = some true
theorem ProcT.ty {PC a dx : Addr} {H : Hp} {fs : List (Str × V)} (T : ProcT K mg PC) (h : H a = some (.ins PC dx fs)) : TyX K H (.ref a) (.ref PC) := .base (.ins h T.cl T.ha T.hn T.htk T.hm)
theorem flat_strs (ws : List Str) : (ws.map V.str).all flatV = true := by
  rw [List.all_eq_true]
  intro y hy
  obtain ⟨z, hz, rfl⟩ := List.mem_map.mp hy
  rfl
theorem inV_no {x : Str} {ws : List Str} (h : x ∉ ws) : inV (.str x) (ws.map V.str) = false := by
  show (ws.map V.str).any (fun y => eqV y (.str x)) = false
  rw [List.any_eq_false]
  intro y hy e
  obtain ⟨z, hz, rfl⟩ := List.mem_map.mp hy
  have e2 : z = x := by
    have e : (z == x) = true := e
    exact eq_of_beq e
  exact h (by rw [← e2]; exact hz)
end
end TS
namespace TS
open PySem L2
abbrev sVarsOf : Stmt := top 94
abbrev sConsOf : Stmt := top 95
section
variable {P : Program} {w : World} {K : PySem.W.Frag} {mg : Str → Option Value} {base : Heap}
abbrev nmVarsOf : List Str := ["processes", "inputs", "words", "word", "process"]
theorem scVarsOf : FnScope nmVarsOf ["processes", "inputs"] (defScope sVarsOf) := ⟨rfl, rfl, rfl, by decide +kernel, rfl, by decide +kernel, by decide +kernel⟩
def spVarsOf (PC CD C : Addr) : Sp := fun vs H Q _ => ∃ (q li : Addr) (ps : List ProcD) (ins : List Str), vs = [.ref q, .ref li] ∧ ProcsAt PC CD C H q ps ∧ H li = some (.lst (ins.map V.str)) ∧ ps.length ≤ 5 ∧ ins.length ≤ 100 ∧ (∀ l : List Str, l.Nodup → (∀ x ∈ l, VarOf ps ins x) → l.length < 64) ∧
  ∀ (H' : Hp) (r : Addr) (vs : List Str), Same H H' → H r = none → H' r = some (.lst (vs.map V.str)) → SetS' vs (VarOf ps ins) → Q (.ref r) H'
theorem ok_varsof {PC CD C f : Addr} {fd : FuncData} (F : Fun K "_variables_of" "_variables_of" sVarsOf f fd) (T : BltT mg) (ml : mg "list" = none) (PK : ProcK K mg PC) (D4 : Has P w K mg base "ascending" 1 ["values"] spAscF)
    (MW : HasM P w K mg base PC "waits" 1 ["self"] (spPWaits PC CD C)) (MR : HasM P w K mg base PC "reads" 1 ["self"] (spPReads PC CD C)) (MT : HasM P w K mg base PC "writes" 1 ["self"] (spPWrites PC CD C)) : FnOk P w K mg base CX0 2 f fd ["processes", "inputs"] (spVarsOf PC CD C) := by
  obtain ⟨f4, fd4, m4, k4, b4, G4⟩ := D4
  obtain ⟨fw, dw, hw, bw, Gw⟩ := MW
  obtain ⟨fr, dr, hrr, br, Gr⟩ := MR
  obtain ⟨ft, dt, ht, bt, Gt⟩ := MT
  refine F.ok scVarsOf (fun vs H Q E h => ?_) (fun cdv A outer s H vs Q E hr h => ?_)
  · obtain ⟨q, li, ps, ins, rfl, _⟩ := h
    rfl
  obtain ⟨q, li, ps, ins, rfl, hP, hli, l5, li100, few, k⟩ := h
  refine ⟨_, pss_cons (ps_setLc2 (i := 2) (own := [("process", 4), ("word", 3)]) (vs1 := [3]) (g := gName 4) (g1 := gName 3) (tt := tYes) (tt1 := tYes) (te := tVar 3) (wi1 := iList K (tOp rCat (tOp rCat (tMeth PC "waits" (spPWaits PC CD C) [] E0 (tVar 4) tNil) (tMeth PC "reads" (spPReads PC CD C) [] E0 (tVar 4) tNil)) (tMeth PC "writes" (spPWrites PC CD C) [] E0 (tVar 4) tNil))) (by rfl) scVarsOf.nd rfl rfl (sw_true rfl rfl rfl (by decide +kernel)) (pi_list (pv 0)) (blkOk_by (own := [("process", 4), ("word", 3)]) (N := nmVarsOf) (sc := defScope sVarsOf) (by decide +kernel)) (by decide)
        (fun _ _ _ _ _ => pg_name (i := 4) scVarsOf.nd rfl (Or.inl rfl)) (fun _ _ _ _ _ => pts_nil)
        (fun _ _ _ _ _ => pi_list (pe_op op_cat (pe_op op_cat (pe_meth0 (pv 4) PK.cl hw Gw hr bw .nil pass0) (pe_meth0 (pv 4) PK.cl hrr Gr hr br .nil pass0)) (pe_meth0 (pv 4) PK.cl ht Gt hr bt .nil pass0)))
        (fun _ _ _ _ _ => pg_name (i := 3) scVarsOf.nd rfl (Or.inl rfl)) (fun _ _ _ _ _ => pts_nil) (fun _ _ _ _ _ => pv 3))
    (pss_one (ps_ret (pe_call G4 hr rfl m4 k4 b4 .nil pass0 (pa_cons (pe_op op_cat (pv 2) (pe_callTy call_list_of (by rfl) ml (by decide +kernel) (pa_cons (pv 1) pa_nil))) pa_nil)))), ?_⟩
  obtain ⟨as, hq, la, hA⟩ := hP
  have sm : ∀ {n : Nat}, n ≤ 1000 → n ≤ sizeLine := fun h => Nat.le_trans h (by decide)
  have at_p : ∀ p ∈ ps, ∃ a, ProcAt PC CD C H a p := fun p hp => by
    obtain ⟨i, hi, e⟩ := List.getElem_of_mem hp
    have ha : as[i]? = some (as[i]'(by omega)) := List.getElem?_eq_getElem _
    exact ⟨_, hA i _ p ha (by rw [← e]; exact List.getElem?_eq_getElem hi)⟩
  have zlen : ∀ p ∈ ps, (p.waits ++ preads p ++ pwrites p).length ≤ 80 := fun p hp => by
    obtain ⟨a, h⟩ := at_p p hp
    obtain ⟨n1, n2, _⟩ := h.lens
    have := h.ok.w4
    rw [List.length_append, List.length_append]
    omega
  have fl0 : ((ps.map fun p => (p.waits ++ preads p ++ pwrites p).map V.str).flatten).length ≤ 400 := by
    refine Nat.le_trans (flat_le (n := 80) _ fun z hz => ?_) (by rw [List.length_map]; omega)
    obtain ⟨p, hp, rfl⟩ := List.mem_map.mp hz
    rw [List.length_map]
    exact zlen p hp
  have fe : (ps.map fun p => (p.waits ++ preads p ++ pwrites p).map V.str).flatten = ((ps.map fun p => p.waits ++ preads p ++ pwrites p).flatten).map V.str := by
    rw [List.map_flatten, List.map_map]
    rfl
  refine ⟨_, rfl, q, rfl, ⟨_, SqL.of hq⟩, fun D hDn => lc_flatL (K := K) (zs := ps.map fun p => (p.waits ++ preads p ++ pwrites p).map V.str) hq (by rw [List.length_map, List.length_map, la]) (by omega) hDn (fun _ => rfl) (fun _ _ => rfl) (fun _ _ => rfl) (fun i x z H1 R hx hz sa R' => ?_) (fun H1 s1 d1 => ?_)⟩
  · obtain ⟨a, ha, rfl⟩ := map_at hx
    obtain ⟨p, hp, rfl⟩ := map_at hz
    have pa := (hA i a p ha hp).same sa
    have zl := zlen p (List.mem_of_getElem? hp)
    rw [List.length_append, List.length_append] at zl
    obtain ⟨n1, n2, _⟩ := pa.lens
    have w4 := pa.ok.w4
    obtain ⟨_, dx, lw, ld, lr, lt, lc, _, _, _, _, hins, _⟩ := id pa
    refine ⟨_, rfl, a, dx, _, rfl, hins, pfs_no (by decide +kernel), a, p, rfl, pa, fun l1 hl1 => ?_⟩
    have g1 : Same H1 (upd H1 l1 (.lst (p.waits.map V.str))) := same_upd hl1 _
    have v1 : (upd H1 l1 (.lst (p.waits.map V.str))) l1 = some (.lst (p.waits.map V.str)) := upd_same
    generalize upd H1 l1 (.lst (p.waits.map V.str)) = H2 at g1 v1
    refine ⟨_, rfl, a, dx, _, rfl, g1 _ _ hins, pfs_no (by decide +kernel), a, p, rfl, pa.same g1, fun l2 rs hl2 hrs => ?_⟩
    rw [(preads_eq hrs).1]
    have g2 : Same H2 (upd H2 l2 (.lst ((preads p).map V.str))) := same_upd hl2 _
    have v2 : (upd H2 l2 (.lst ((preads p).map V.str))) l2 = some (.lst ((preads p).map V.str)) := upd_same
    generalize upd H2 l2 (.lst ((preads p).map V.str)) = H3 at g2 v2
    refine ⟨l1, l2, _, _, rfl, rfl, g2 _ _ v1, v2, sm (by rw [List.length_map, List.length_map]; omega), fun l3 hl3 => ?_⟩
    rw [← List.map_append]
    have g3 : Same H3 (upd H3 l3 (.lst ((p.waits ++ preads p).map V.str))) := same_upd hl3 _
    have v3 : (upd H3 l3 (.lst ((p.waits ++ preads p).map V.str))) l3 = some (.lst ((p.waits ++ preads p).map V.str)) := upd_same
    generalize upd H3 l3 (.lst ((p.waits ++ preads p).map V.str)) = H4 at g3 v3
    refine ⟨_, rfl, a, dx, _, rfl, g3 _ _ (g2 _ _ (g1 _ _ hins)), pfs_no (by decide +kernel), a, p, rfl, ((pa.same g1).same g2).same g3, fun l4 ts hl4 hts => ?_⟩
    rw [(pwrites_eq hts).1]
    have g4 : Same H4 (upd H4 l4 (.lst ((pwrites p).map V.str))) := same_upd hl4 _
    have v4 : (upd H4 l4 (.lst ((pwrites p).map V.str))) l4 = some (.lst ((pwrites p).map V.str)) := upd_same
    generalize upd H4 l4 (.lst ((pwrites p).map V.str)) = H5 at g4 v4
    refine ⟨l3, l4, _, _, rfl, rfl, g4 _ _ v3, v4, sm (by rw [List.length_map, List.length_map, List.length_append]; omega), fun l5 hl5 => ?_⟩
    have gg := ((g1.trans g2).trans g3).trans g4
    refine R' l5 _ (gg.trans (same_upd hl5 _)) (gg.free hl5) ?_
    rw [upd_same, ← List.map_append]
  · rw [fe] at d1
    refine ⟨_, rfl, _, rfl, li, _, rfl, .inl (SqL.of (s1 _ _ hli)), fun l6 hl6 => ?_⟩
    have g6 : Same H1 (upd H1 l6 (.lst (ins.map V.str))) := same_upd hl6 _
    have v6 : (upd H1 l6 (.lst (ins.map V.str))) l6 = some (.lst (ins.map V.str)) := upd_same
    generalize upd H1 l6 (.lst (ins.map V.str)) = H2 at g6 v6
    have fl1 : ((ps.map fun p => p.waits ++ preads p ++ pwrites p).flatten).length ≤ 400 := by
      have := fl0
      rwa [fe, List.length_map] at this
    refine ⟨D, l6, _, _, rfl, rfl, g6 _ _ d1, v6, sm (by rw [List.length_map, List.length_map]; omega), fun l7 hl7 => ?_⟩
    rw [← List.map_append]
    have mem : ∀ x, x ∈ (ps.map fun p => p.waits ++ preads p ++ pwrites p).flatten ++ ins ↔ VarOf ps ins x := fun x => by
      rw [List.mem_append, List.mem_flatten]
      refine or_congr ⟨?_, ?_⟩ Iff.rfl
      · rintro ⟨z, hz, hx⟩
        obtain ⟨p, hp, rfl⟩ := List.mem_map.mp hz
        obtain ⟨a, h⟩ := at_p p hp
        obtain ⟨t1, t2, _⟩ := h.sets
        refine ⟨p, hp, ?_⟩
        rcases List.mem_append.mp hx with hx | hx
        · rcases List.mem_append.mp hx with hx | hx
          · exact .inl hx
          · exact .inr (.inl ((t1.mem x).mp hx))
        · exact .inr (.inr ((t2.mem x).mp hx))
      · rintro ⟨p, hp, hx⟩
        obtain ⟨a, h⟩ := at_p p hp
        obtain ⟨t1, t2, _⟩ := h.sets
        refine ⟨_, List.mem_map.mpr ⟨p, hp, rfl⟩, ?_⟩
        rcases hx with hx | hx | hx
        · exact List.mem_append.mpr (.inl (List.mem_append.mpr (.inl hx)))
        · exact List.mem_append.mpr (.inl (List.mem_append.mpr (.inr ((t1.mem x).mpr hx))))
        · exact List.mem_append.mpr (.inr ((t2.mem x).mpr hx))
    refine ⟨l7, _, rfl, upd_same, ?_, .inl ⟨_, rfl, few _ (once_nd _) fun x hx => (mem x).mp ((once_mem _ _).mp hx), fun r H3 out s3 hr3 pm so e3 => ?_⟩⟩
    · rw [List.length_map, List.length_append]
      omega
    · have gg : Same H (upd H2 l7 (.lst (((ps.map fun p => p.waits ++ preads p ++ pwrites p).flatten ++ ins).map V.str))) := (s1.trans g6).trans (same_upd hl7 _)
      exact k H3 r out (gg.trans s3) (gg.free hr3) e3 (SetS'.of pm so mem)
/-! _constants_of -/
abbrev nmConsOf : List Str := ["processes", "number", "process"]
theorem scConsOf : FnScope nmConsOf ["processes"] (defScope sConsOf) := ⟨rfl, rfl, rfl, by decide +kernel, rfl, by decide +kernel, by decide +kernel⟩
def spConsOf (PC CD C : Addr) : Sp := fun vs H Q _ => ∃ (q : Addr) (ps : List ProcD), vs = [.ref q] ∧ ProcsAt PC CD C H q ps ∧ ps.length ≤ 5 ∧ (∀ l : List Int, l.Nodup → (∀ x ∈ l, ConOf ps x) → l.length < 64) ∧
  ∀ (H' : Hp) (r : Addr) (ns : List Int), Same H H' → H r = none → H' r = some (.lst (ns.map V.int)) → SetI' ns (ConOf ps) → Q (.ref r) H'
theorem ok_consof {PC CD C f : Addr} {fd : FuncData} (F : Fun K "_constants_of" "_constants_of" sConsOf f fd) (T : BltT mg) (PK : ProcK K mg PC) (D4 : Has P w K mg base "ascending" 1 ["values"] spAscF)
    (MC : HasM P w K mg base PC "constants" 1 ["self"] (spPCons PC CD C)) : FnOk P w K mg base CX0 2 f fd ["processes"] (spConsOf PC CD C) := by
  obtain ⟨f4, fd4, m4, k4, b4, G4⟩ := D4
  obtain ⟨fw, dw, hw, bw, Gw⟩ := MC
  refine F.ok scConsOf (fun vs H Q E h => ?_) (fun cdv A outer s H vs Q E hr h => ?_)
  · obtain ⟨q, ps, rfl, _⟩ := h
    rfl
  obtain ⟨q, ps, rfl, hP, l5, few, k⟩ := h
  refine ⟨_, pss_one (ps_ret (pe_call G4 hr rfl m4 k4 b4 .nil pass0 (pa_cons (pe_lc2 (own := [("process", 2), ("number", 1)]) (vs1 := [1]) (g := gName 2) (g1 := gName 1) (tt := tYes) (tt1 := tYes) (te := tVar 1) (wi1 := iList K (tMeth PC "constants" (spPCons PC CD C) [] E0 (tVar 2) tNil)) (by rfl) scConsOf.nd (pi_list (pv 0)) (blkOk_by (own := [("process", 2), ("number", 1)]) (N := nmConsOf) (sc := defScope sConsOf) (by decide +kernel)) (by decide)
        (fun _ _ _ _ _ => pg_name (i := 2) scConsOf.nd rfl (Or.inl rfl)) (fun _ _ _ _ _ => pts_nil)
        (fun _ _ _ _ _ => pi_list (pe_meth0 (pv 2) PK.cl hw Gw hr bw .nil pass0))
        (fun _ _ _ _ _ => pg_name (i := 1) scConsOf.nd rfl (Or.inl rfl)) (fun _ _ _ _ _ => pts_nil) (fun _ _ _ _ _ => pv 1)) pa_nil))), ?_⟩
  obtain ⟨as, hq, la, hA⟩ := hP
  have at_p : ∀ p ∈ ps, ∃ a, ProcAt PC CD C H a p := fun p hp => by
    obtain ⟨i, hi, e⟩ := List.getElem_of_mem hp
    have ha : as[i]? = some (as[i]'(by omega)) := List.getElem?_eq_getElem _
    exact ⟨_, hA i _ p ha (by rw [← e]; exact List.getElem?_eq_getElem hi)⟩
  have fl0 : ((ps.map fun p => (pcons p).map V.int).flatten).length ≤ 400 := by
    refine Nat.le_trans (flat_le (n := 80) _ fun z hz => ?_) (by rw [List.length_map]; omega)
    obtain ⟨p, hp, rfl⟩ := List.mem_map.mp hz
    obtain ⟨a, h⟩ := at_p p hp
    have := h.lens.2.2
    rw [List.length_map]
    omega
  have fe : (ps.map fun p => (pcons p).map V.int).flatten = ((ps.map fun p => pcons p).flatten).map V.int := by
    rw [List.map_flatten, List.map_map]
    rfl
  refine ⟨_, rfl, q, rfl, ⟨_, SqL.of hq⟩, fun D hDn => lc_flatL (K := K) (zs := ps.map fun p => (pcons p).map V.int) hq (by rw [List.length_map, List.length_map, la]) (by omega) hDn (fun _ => rfl) (fun _ _ => rfl) (fun _ _ => rfl) (fun i x z H1 R hx hz sa R' => ?_) (fun H1 s1 d1 => ?_)⟩
  · obtain ⟨a, ha, rfl⟩ := map_at hx
    obtain ⟨p, hp, rfl⟩ := map_at hz
    have pa := (hA i a p ha hp).same sa
    obtain ⟨_, dx, lw, ld, lr, lt, lc, _, _, _, _, hins, _⟩ := id pa
    refine ⟨_, rfl, a, dx, _, rfl, hins, pfs_no (by decide +kernel), a, p, rfl, pa, fun l1 cs hl1 hcs => ?_⟩
    rw [(pcons_eq hcs).1]
    exact R' l1 _ (same_upd hl1 _) hl1 upd_same
  · rw [fe] at d1
    have mem : ∀ x, x ∈ (ps.map fun p => pcons p).flatten ↔ ConOf ps x := fun x => by
      rw [List.mem_flatten]
      constructor
      · rintro ⟨z, hz, hx⟩
        obtain ⟨p, hp, rfl⟩ := List.mem_map.mp hz
        obtain ⟨a, h⟩ := at_p p hp
        exact ⟨p, hp, (h.sets.2.2.mem x).mp hx⟩
      · rintro ⟨p, hp, hx⟩
        obtain ⟨a, h⟩ := at_p p hp
        exact ⟨_, List.mem_map.mpr ⟨p, hp, rfl⟩, (h.sets.2.2.mem x).mpr hx⟩
    refine ⟨D, _, rfl, d1, ?_, .inr ⟨_, rfl, few _ (once_nd _) fun x hx => (mem x).mp ((once_mem _ _).mp hx), fun r H3 out s3 hr3 pm so e3 => k H3 r out (s1.trans s3) (s1.free hr3) e3 (SetI'.of pm so mem)⟩⟩
    rw [← fe]
    omega
end
end TS
namespace TS
open PySem L2
abbrev sAreP : Stmt := top 92
abbrev sAreI : Stmt := top 93
/-- [e(x, y) for x in list for y in list], each False -/
theorem lc_falseP {K : PySem.W.Frag} {p q D : Addr} {xs ys : List V} {k k1 : Nat} {te1 te : TE} {σ : St} {H : Hp} {Qd : Hp → Prop} (hp : H p = some (.lst xs)) (hq : H q = some (.lst ys)) (h6 : xs.length * ys.length ≤ 1000) (hD : H D = none)
    (hw : ∀ v, wipe ((wipe σ [k, k1]).set k v) [k, k1] = wipe σ [k, k1])
    (hw1 : ∀ v u, wipe ((wipe ((wipe σ [k, k1]).set k v) [k1]).set k1 u) [k1] = wipe ((wipe σ [k, k1]).set k v) [k1])
    (h1 : ∀ v H1 R, Same H H1 → R (V.ref q) H1 → te1 ((wipe σ [k, k1]).set k (some v)) H1 R)
    (step : ∀ (i j : Nat) (x y : V) (H1 : Hp) (R : VK), xs[i]? = some x → ys[j]? = some y → Same H H1 → (∀ H2, Same H1 H2 → R (.bl false) H2) → te ((wipe ((wipe σ [k, k1]).set k (some x)) [k1]).set k1 (some y)) H1 R)
    (hd : ∀ H1 n, Same H H1 → H1 D = some (.lst ((List.replicate n false).map V.bl)) → Qd H1) :
    ∃ W : Nat → Nat → Hp → Prop, (∃ m, W 0 m (upd H D (.lst []))) ∧ ∀ i m H, W i m H →
  ((Itl K p).stop i H ∧ Qd H) ∨ ((Itl K p).go i H ∧ ∃ Nx : Hp → Prop, (∀ H', Nx H' → ∃ m', m' < m ∧ W (i + 1) m' H') ∧ ∀ x H', (Itl K p).yld i H x H' → gName k x (wipe σ [k, k1]) H' fun σ2 H2 => wipe σ2 [k, k1] = wipe σ [k, k1] ∧ tYes σ2 H2 fun b H3 =>
    if b = true then iList K te1 σ2 H3 fun J1 H4 => ∃ W1 : Nat → Nat → Hp → Prop, (∃ m, W1 0 m H4) ∧ ∀ j k2 H, W1 j k2 H →
      (J1.stop j H ∧ Nx H) ∨ (J1.go j H ∧ ∃ Nx1 : Hp → Prop, (∀ H', Nx1 H' → ∃ k', k' < k2 ∧ W1 (j + 1) k' H') ∧ ∀ x H', J1.yld j H x H' → gName k1 x (wipe σ2 [k1]) H' fun σ3 H5 => wipe σ3 [k1] = wipe σ2 [k1] ∧ tYes σ3 H5 fun b H6 =>
        if b = true then te σ3 H6 fun y H7 => ∃ acc, H7 D = some (.lst acc) ∧ acc.length < sizeLine ∧ Nx1 (upd H7 D (.lst (acc ++ [y]))) else Nx1 H6)
    else Nx H3) := by
  have snoc : ∀ n : Nat, (List.replicate n false).map V.bl ++ [V.bl false] = (List.replicate (n + 1) false).map V.bl := fun n => by
    rw [List.replicate_succ', List.map_append]
    rfl
  refine ⟨fun i m H1 => m = xs.length - i ∧ i ≤ xs.length ∧ Same H H1 ∧ ∃ n, n ≤ i * ys.length ∧ H1 D = some (.lst ((List.replicate n false).map V.bl)), ⟨xs.length, by simp, Nat.zero_le _, same_upd hD _, 0, by simp, by rw [upd_same]; rfl⟩, ?_⟩
  rintro i m H1 ⟨rfl, hi, s1, n, hn, d1⟩
  have sq : SqL K H1 p xs := SqL.of (s1 _ _ hp)
  by_cases hlt : i < xs.length
  · refine .inr ⟨⟨xs, xs[i], sq, by simp [hlt]⟩, fun H' => Same H H' ∧ ∃ n, n ≤ (i + 1) * ys.length ∧ H' D = some (.lst ((List.replicate n false).map V.bl)), fun H' p' => ⟨xs.length - (i + 1), by omega, rfl, hlt, p'⟩, fun x H' y => ?_⟩
    obtain ⟨e, y⟩ := y
    subst e
    have hx := y xs sq
    have bound : (i + 1) * ys.length ≤ 1000 := Nat.le_trans (Nat.mul_le_mul_right _ (by omega)) h6
    have expand : (i + 1) * ys.length = i * ys.length + ys.length := by rw [Nat.add_mul, Nat.one_mul]
    refine ⟨hw _, ?_⟩
    unfold tYes
    dsimp only
    rw [if_pos rfl]
    refine h1 x _ _ s1 ⟨q, rfl, ⟨_, SqL.of (s1 _ _ hq)⟩, fun j m H5 => m = ys.length - j ∧ j ≤ ys.length ∧ Same H H5 ∧ ∃ n, n ≤ i * ys.length + j ∧ H5 D = some (.lst ((List.replicate n false).map V.bl)), ⟨ys.length, by simp, Nat.zero_le _, s1, n, hn, d1⟩, ?_⟩
    rintro j m H5 ⟨rfl, hj, s5, n5, hn5, d5⟩
    have q5 : SqL K H5 q ys := SqL.of (s5 _ _ hq)
    by_cases hlj : j < ys.length
    · refine .inr ⟨⟨ys, ys[j], q5, by simp [hlj]⟩, fun H6 => Same H H6 ∧ ∃ n, n ≤ i * ys.length + (j + 1) ∧ H6 D = some (.lst ((List.replicate n false).map V.bl)), fun H6 p6 => ⟨ys.length - (j + 1), by omega, rfl, hlj, p6⟩, fun u H6 y6 => ?_⟩
      obtain ⟨e6, y6⟩ := y6
      subst e6
      have hu := y6 ys q5
      refine ⟨hw1 _ _, iteT (step i j x u _ _ hx hu s5 fun H7 s7 => ⟨_, s7 _ _ d5, ?_, ?_⟩)⟩
      · rw [List.length_map, List.length_replicate]
        exact small1000 (by omega)
      · refine ⟨fun b o qb => ?_, n5 + 1, by omega, by rw [upd_same, snoc]⟩
        rw [upd_ne (ne_of_none qb hD)]
        exact s7 _ _ (s5 _ _ qb)
    · have e : j = ys.length := by omega
      subst e
      exact .inl ⟨⟨ys, q5, Nat.le_refl _⟩, s5, n5, by omega, d5⟩
  · have e : i = xs.length := by omega
    subst e
    exact .inl ⟨⟨xs, sq, Nat.le_refl _⟩, hd H1 n s1 d1⟩
section
variable {P : Program} {w : World} {K : PySem.W.Frag} {mg : Str → Option Value} {base : Heap}
abbrev nmAreP : List Str := ["values", "value"]
theorem scAreP : FnScope nmAreP ["values"] (defScope sAreP) := ⟨rfl, rfl, rfl, by decide +kernel, rfl, by decide +kernel, by decide +kernel⟩
def spAreP (PC CD C : Addr) : Sp := fun vs H Q _ => ∃ (q : Addr) (ps : List ProcD), vs = [.ref q] ∧ ProcsAt PC CD C H q ps ∧ 1 ≤ ps.length ∧ ps.length ≤ 5 ∧ ∀ H', Same H H' → Q (.bl true) H'
theorem ok_arep {PC CD C f : Addr} {fd : FuncData} (F : Fun K "_are_processes" "_are_processes" sAreP f fd) (T : BltT mg) (ma : mg "all" = none) (PT : ProcT K mg PC) (m5 : ∃ t, mg "MOST_PROCESSES" = some (.int 5 t)) (D1 : Has P w K mg base "is_short_row" 2 ["value", "most"] spShort) : FnOk P w K mg base CX0 3 f fd ["values"] (spAreP PC CD C) := by
  obtain ⟨f1, fd1, m1, k1, b1, G1⟩ := D1
  obtain ⟨t5, m5⟩ := m5
  refine F.ok scAreP (fun vs H Q E h => ?_) (fun cdv A outer s H vs Q E hr h => ?_)
  · obtain ⟨q, ps, rfl, _⟩ := h
    rfl
  obtain ⟨q, ps, rfl, hP, l1, l5, k⟩ := h
  refine ⟨_, pss_one (ps_ret (pe_and (pe_call G1 hr rfl m1 k1 b1 .nil pass0 (pa_cons (pv 0) (pa_cons (pe_glob rfl m5 (show RelV (.int 5) (.int 5 t5) from ⟨_, rfl⟩)) pa_nil))) (pe_one (pe_callB (cr_all rfl) (by rfl) ma (by decide +kernel) (pa_cons
      (pe_lc (own := [("value", 1)]) (g := gName 1) (tt := tYes) (te := tCB (rIsi K) (tCons (tVar 1) (tCons (tC (V.ref PC)) tNil))) (by rfl) scAreP.nd (pi_list (pv 0)) (blkOk_by (own := [("value", 1)]) (N := nmAreP) (sc := defScope sAreP) (by decide +kernel)) (fun _ _ _ _ _ => pg_name (i := 1) scAreP.nd rfl (Or.inl rfl)) (fun _ _ _ _ _ => pts_nil)
        (fun _ _ _ _ _ => pe_callB call_isi (by rfl) T.isi bIsi (pa_cons (pv 1) (pa_cons (pe_glob rfl PT.mgC (show RelV (.ref PC) (.ref PC) from rfl)) pa_nil)))) pa_nil))))), ?_⟩
  obtain ⟨as, hq, la, hA⟩ := hP
  have hl : (as.map V.ref).length = ps.length := by rw [List.length_map, la]
  refine ⟨_, rfl, q, _, 5, rfl, .inl hq, by omega, by omega, fun H1 s1 => ⟨_, rfl, iteT ?_⟩⟩
  refine ⟨_, rfl, q, rfl, ⟨_, SqL.of (s1 _ _ hq)⟩, fun D hD => lc_eachL (K := K) (fun _ v (_ : ProcD) => v = .bl true) (ts := ps) (s1 _ _ hq) hl.symm (by omega) hD (fun _ => rfl) (fun i v x H2 G hv hx s2 hL hG => ?_) (fun H2 ys s2 d2 e2 => ?_)⟩
  · obtain ⟨a, ha, rfl⟩ := map_at hv
    obtain ⟨_, dx, lw, ld, lr, lt, lc, _, _, _, _, hins, _⟩ := ((hA i a x ha hx).same s1).same s2
    exact ⟨_, rfl, _, _, _, _, _, rfl, .own PC, PT.ty hins, PT.kP, hG _ H2 (Same.refl _) fun _ _ => rfl⟩
  · have ey : ys = (List.replicate ys.length true).map V.bl := by
      refine List.ext_getElem? fun i => ?_
      rw [List.getElem?_map, List.getElem?_replicate]
      by_cases c : i < ys.length
      · rw [if_pos c, List.getElem?_eq_getElem c]
        have ht : ps[i]? = some (ps[i]'(by rw [← e2.1]; exact c)) := List.getElem?_eq_getElem _
        have := e2.2 i _ _ (List.getElem?_eq_getElem c) ht
        rw [this]
        rfl
      · rw [if_neg c, List.getElem?_eq_none (by omega)]
        rfl
    rw [ey] at d2
    refine ⟨D, _, rfl, SqL.of d2, ?_⟩
    have ea : (List.replicate ys.length true).all id = true := by simp
    rw [ea]
    exact k H2 (s1.trans s2)
/-! _are_inputs -/
abbrev nmAreI : List Str := ["values", "processes", "name", "process"]
theorem scAreI : FnScope nmAreI ["values", "processes"] (defScope sAreI) := ⟨rfl, rfl, rfl, by decide +kernel, rfl, by decide +kernel, by decide +kernel⟩
def spAreI (PC CD C : Addr) : Sp := fun vs H Q _ => ∃ (li q : Addr) (ps : List ProcD) (ins : List Str), vs = [.ref li, .ref q] ∧ ProcsAt PC CD C H q ps ∧ ps.length ≤ 5 ∧ H li = some (.lst (ins.map V.str)) ∧ (∀ x ∈ ins, WordOk x) ∧ ins.Nodup ∧ 1 ≤ ins.length ∧ ins.length ≤ 3 ∧ (∀ x ∈ ins, ∀ p ∈ ps, ¬ p.written x) ∧ ∀ H', Same H H' → Q (.bl true) H'
theorem ok_arei {PC CD C f : Addr} {fd : FuncData} (F : Fun K "_are_inputs" "_are_inputs" sAreI f fd) (T : BltT mg) (PK : ProcK K mg PC) (m3 : ∃ t, mg "MOST_INPUTS" = some (.int 3 t)) (D1 : Has P w K mg base "are_unlike_words" 3 ["value", "most"] spUnlikeW)
    (MT : HasM P w K mg base PC "writes" 1 ["self"] (spPWrites PC CD C)) : FnOk P w K mg base CX0 4 f fd ["values", "processes"] (spAreI PC CD C) := by
  obtain ⟨f1, fd1, m1, k1, b1, G1⟩ := D1
  obtain ⟨ft, dt, ht, bt, Gt⟩ := MT
  obtain ⟨t3, m3⟩ := m3
  refine F.ok scAreI (fun vs H Q E h => ?_) (fun cdv A outer s H vs Q E hr h => ?_)
  · obtain ⟨li, q, ps, ins, rfl, _⟩ := h
    rfl
  obtain ⟨li, q, ps, ins, rfl, hP, l5, hli, wok, wnd, i1, i3, hno, k⟩ := h
  have r1 : Room 1 _ := hr.mono (by decide)
  refine ⟨_, pss_cons (ps_if (pt_not (pt_val (pe_call G1 hr rfl m1 k1 b1 .nil pass0 (pa_cons (pv 0) (pa_cons (pe_glob rfl m3 (show RelV (.int 3) (.int 3 t3) from ⟨_, rfl⟩)) pa_nil))))) (pss_one (ps_ret pe_bl)) pss_nil)
    (pss_one (ps_ret (pe_not (pe_callB (cr_any rfl) (by rfl) T.any (by decide +kernel) (pa_cons
      (pe_lc2 (own := [("name", 2), ("process", 3)]) (vs1 := [3]) (g := gName 2) (g1 := gName 3) (tt := tYes) (tt1 := tYes) (te := tOp (rIn K false) (tVar 2) (tMeth PC "writes" (spPWrites PC CD C) [] E0 (tVar 3) tNil)) (wi1 := iList K (tVar 1)) (by rfl) scAreI.nd (pi_list (pv 0)) (blkOk_by (own := [("name", 2), ("process", 3)]) (N := nmAreI) (sc := defScope sAreI) (by decide +kernel)) (by decide)
        (fun _ _ _ _ _ => pg_name (i := 2) scAreI.nd rfl (Or.inl rfl)) (fun _ _ _ _ _ => pts_nil)
        (fun _ _ _ _ _ => pi_list (pv 1))
        (fun _ _ _ _ _ => pg_name (i := 3) scAreI.nd rfl (Or.inl rfl)) (fun _ _ _ _ _ => pts_nil)
        (fun _ _ _ _ _ => pe_cmpR op_in_seq (pv 2) (pe_meth0 (pv 3) PK.cl ht Gt r1 bt .nil pass0) (by rfl))) pa_nil))))), ?_⟩
  obtain ⟨as, hq, la, hA⟩ := hP
  refine ⟨_, rfl, li, ins, 3, rfl, hli, wok, wnd, i1, i3, by decide, fun H1 s1 => ⟨_, rfl, iteF ?_⟩⟩
  have bnd : (ins.map V.str).length * (as.map V.ref).length ≤ 1000 := by
    rw [List.length_map, List.length_map, la]
    exact Nat.le_trans (Nat.mul_le_mul i3 l5) (by decide)
  refine ⟨_, rfl, li, rfl, ⟨_, SqL.of (s1 _ _ hli)⟩, fun D hD => lc_falseP (K := K) (q := q) (s1 _ _ hli) (s1 _ _ hq) bnd hD (fun _ => rfl) (fun _ _ => rfl) (fun v H2 R s2 hR => ⟨_, rfl, hR⟩) (fun i j x y H2 R hx hy s2 hR => ?_) (fun H2 n s2 d2 => ?_)⟩
  · obtain ⟨nm, hnm, rfl⟩ := map_at hx
    obtain ⟨a, ha, rfl⟩ := map_at hy
    have hj : j < ps.length := by
      have := (List.getElem?_eq_some_iff.mp ha).1
      omega
    have hp : ps[j]? = some ps[j] := List.getElem?_eq_getElem hj
    have pa := ((hA j a _ ha hp).same s1).same s2
    have hn := hno nm (List.mem_of_getElem? hnm) _ (List.mem_of_getElem? hp)
    generalize ps[j] = p at hp pa hn
    obtain ⟨_, dx, lw, ld, lr, lt, lc, _, _, _, _, hins, _⟩ := id pa
    refine ⟨_, rfl, _, rfl, a, dx, _, rfl, hins, pfs_no (by decide +kernel), a, p, rfl, pa, fun l7 ts hl7 hts => ?_⟩
    refine ⟨l7, _, rfl, .inl (SqL.of upd_same), rfl, flat_strs ts, ?_⟩
    rw [inV_no (fun m => hn ((hts.mem nm).mp m))]
    exact hR _ (same_upd hl7 _)
  · refine ⟨D, _, rfl, SqL.of d2, _, rfl, ?_⟩
    have ea : (List.replicate n false).any id = false := by simp
    rw [ea]
    exact k H2 (s1.trans s2)
end
end TS
namespace TS
open PySem L2
abbrev sPlacesOf : Stmt := top 96
/-- the places of deeds at once -/
def placesD (nm : Str) : Nat → List DeedD → List (Str × Nat)
  | _, [] => []
  | j, d :: r => if d.l = true then placesD nm (j + 1) r else (nm, j) :: placesD nm (j + 1) r
def placesE (ps : List ProcD) : List (Str × Nat) := (ps.map fun p => placesD p.name 0 p.ds).flatten
theorem placesD_snoc (nm : Str) (d : DeedD) : ∀ (l : List DeedD) (j : Nat), placesD nm j (l ++ [d]) = placesD nm j l ++ (if d.l = true then [] else [(nm, j + l.length)])
  | [], j => by
    show (if d.l = true then _ else _) = _
    cases d.l <;> simp [placesD]
  | e :: r, j => by
    have ih := placesD_snoc nm d r (j + 1)
    show (if e.l = true then placesD nm (j + 1) (r ++ [d]) else (nm, j) :: placesD nm (j + 1) (r ++ [d])) = (if e.l = true then placesD nm (j + 1) r else (nm, j) :: placesD nm (j + 1) r) ++ _
    rw [ih, List.length_cons, show j + 1 + r.length = j + (r.length + 1) by omega]
    cases e.l <;> simp
theorem placesD_len (nm : Str) : ∀ (l : List DeedD) (j : Nat), (placesD nm j l).length ≤ l.length
  | [], j => Nat.le_refl _
  | e :: r, j => by
    have ih := placesD_len nm r (j + 1)
    show (if e.l = true then placesD nm (j + 1) r else (nm, j) :: placesD nm (j + 1) r).length ≤ _
    cases e.l <;> simp <;> omega
theorem placesE_snoc (ps : List ProcD) (p : ProcD) : placesE (ps ++ [p]) = placesE ps ++ placesD p.name 0 p.ds := by
  unfold placesE
  rw [List.map_append, List.flatten_append]
  simp
theorem placesE_len : ∀ (ps : List ProcD), (∀ p ∈ ps, p.ds.length ≤ 4) → (placesE ps).length ≤ ps.length * 4
  | [], _ => Nat.zero_le _
  | p :: r, h => by
    have ih := placesE_len r fun q hq => h q (by simp [hq])
    have h1 := placesD_len p.name p.ds 0
    have h2 := h p (by simp)
    show ((p :: r).map _).flatten.length ≤ _
    rw [List.map_cons, List.flatten_cons, List.length_append, List.length_cons]
    have : ((r.map fun p => placesD p.name 0 p.ds).flatten).length ≤ r.length * 4 := ih
    omega
/-- a place as a value -/
def PlV (H : Hp) (v : V) (x : Str × Nat) : Prop := ∃ t, v = .ref t ∧ H t = some (.tup [.str x.1, .int x.2])
theorem PlV.same {H H' : Hp} {v : V} {x : Str × Nat} (h : PlV H v x) (s : Same H H') : PlV H' v x := let ⟨t, e, g⟩ := h; ⟨t, e, s _ _ g⟩
theorem PlV.off {Ds : List Addr} {H H' : Hp} {v : V} {x : Str × Nat} (h : PlV H v x) (s : SameOff Ds H H') (hl : Lists Ds H) : PlV H' v x := by
  obtain ⟨t, e, g⟩ := h
  refine ⟨t, e, s _ _ g fun m => ?_⟩
  obtain ⟨xs, e2⟩ := hl t m
  rw [g] at e2
  cases e2
section
variable {P : Program} {w : World} {K : PySem.W.Frag} {mg : Str → Option Value} {base : Heap}
abbrev nmPlacesOf : List Str := ["processes", "process", "index", "deed"]
theorem scPlacesOf : FnScope nmPlacesOf ["processes"] (defScope sPlacesOf) := ⟨rfl, rfl, rfl, by decide +kernel, rfl, by decide +kernel, by decide +kernel⟩
def spPlacesOf (PC CD C : Addr) : Sp := fun vs H Q _ => ∃ (q : Addr) (ps : List ProcD), vs = [.ref q] ∧ ProcsAt PC CD C H q ps ∧ ps.length ≤ 5 ∧
  ∀ (H' : Hp) (r : Addr) (ys : List V), Same H H' → H r = none → H' r = some (.lst ys) → Each PlV H' ys (placesE ps) → Q (.ref r) H'
theorem ok_placesof {PC CD C f : Addr} {fd : FuncData} (F : Fun K "_places_of" "_places_of" sPlacesOf f fd) (me : mg "enumerate" = none) (PK : ProcK K mg PC) (DK : DeedK K mg CD) (PN : HasP P w K mg base PC "name" 1 (spPName PC CD C)) (PL : HasP P w K mg base CD "late" 1 (spDLate CD C))
    (MD : HasM P w K mg base PC "deeds" 1 ["self"] (spPDeeds PC CD C)) : FnOk P w K mg base CX0 3 f fd ["processes"] (spPlacesOf PC CD C) := by
  obtain ⟨p1, g1, fd1, h1, b1, G1⟩ := PN
  obtain ⟨p2, g2, fd2, h2, b2, G2⟩ := PL
  obtain ⟨f3, fd3, h3, b3, G3⟩ := MD
  refine F.ok scPlacesOf (fun vs H Q E h => ?_) (fun cdv A outer s H vs Q E hr h => ?_)
  · obtain ⟨q, ps, rfl, _⟩ := h
    rfl
  obtain ⟨q, ps, rfl, hP, l5, k⟩ := h
  have r1 : Room 1 _ := hr.mono (by decide)
  refine ⟨_, pss_one (ps_ret (pe_lc2 (own := [("process", 1), ("index", 2), ("deed", 3)]) (vs1 := [2, 3]) (g := gName 1) (g1 := gTup K 2 (gCons (gName 2) (gCons (gName 3) gNil))) (tt := tYes) (tt1 := tNot (tB (tProp CD (spDLate CD C) [] E0 (tVar 3)))) (te := tTup (tCons (tProp PC (spPName PC CD C) [] E0 (tVar 1)) (tCons (tVar 2) tNil))) (wi1 := iEnum K (tCons (tMeth PC "deeds" (spPDeeds PC CD C) [] E0 (tVar 1) tNil) tNil)) (by rfl) scPlacesOf.nd (pi_list (pv 0)) (blkOk_by (own := [("process", 1), ("index", 2), ("deed", 3)]) (N := nmPlacesOf) (sc := defScope sPlacesOf) (by decide +kernel)) (by decide)
        (fun _ _ _ _ _ => pg_name (i := 1) scPlacesOf.nd rfl (Or.inl rfl)) (fun _ _ _ _ _ => pts_nil)
        (fun _ _ _ _ _ => pi_enum rfl me (pa_cons (pe_meth0 (pv 1) PK.cl h3 G3 r1 b3 .nil pass0) pa_nil))
        (fun _ _ _ _ _ => pg_tup (by rfl) (pgs_cons (pg_name (i := 2) scPlacesOf.nd rfl (Or.inl rfl)) (pgs_cons (pg_name (i := 3) scPlacesOf.nd rfl (Or.inl rfl)) pgs_nil)))
        (fun _ _ _ _ _ => pts_one (pt_not (pt_val (pe_prop (pv 3) DK.cl h2 G2 hr b2 .nil pass0 rfl))))
        (fun _ _ _ _ _ => pe_tup (pa_cons (pe_prop (pv 1) PK.cl h1 G1 hr b1 .nil pass0 rfl) (pa_cons (pv 2) pa_nil))))), ?_⟩
  obtain ⟨as, hq, la, hA⟩ := hP
  have hl : (as.map V.ref).length = ps.length := by rw [List.length_map, la]
  have d4 : ∀ p ∈ ps, p.ds.length ≤ 4 := fun p hp => by
    obtain ⟨i, hi, e⟩ := List.getElem_of_mem hp
    have ha : as[i]? = some (as[i]'(by omega)) := List.getElem?_eq_getElem _
    exact (hA i _ p ha (by rw [← e]; exact List.getElem?_eq_getElem hi)).ok.d4
  refine ⟨_, rfl, q, rfl, ⟨_, SqL.of hq⟩, fun D hD => ?_⟩
  refine ⟨fun i m G => m = ps.length - i ∧ i ≤ ps.length ∧ Same H G ∧ ∃ ys, G D = some (.lst ys) ∧ Each PlV G ys (placesE (ps.take i)), ⟨ps.length, by simp, Nat.zero_le _, same_upd hD _, [], upd_same, Each.nil⟩, ?_⟩
  rintro i m G ⟨rfl, hi, sG, ys, dG, eG⟩
  have sq : SqL K G q (as.map V.ref) := SqL.of (sG _ _ hq)
  by_cases hlt : i < ps.length
  · have hp : ps[i]? = some ps[i] := List.getElem?_eq_getElem hlt
    have ha : as[i]? = some (as[i]'(by omega)) := List.getElem?_eq_getElem _
    have hx0 : (as.map V.ref)[i]? = some (.ref (as[i]'(by omega))) := by rw [List.getElem?_map, ha]; rfl
    have pa0 := hA i _ _ ha hp
    have hpm := d4 _ (List.getElem_mem hlt)
    generalize as[i]'(by omega) = a at ha hx0 pa0
    generalize ps[i] = p at hp pa0 hpm
    have etk : ps.take (i + 1) = ps.take i ++ [p] := by rw [List.take_succ, hp]; rfl
    have lng : (placesE (ps.take i)).length ≤ 20 := by
      have := placesE_len (ps.take i) fun p hp => d4 p (List.mem_of_mem_take hp)
      have l2 : (ps.take i).length ≤ 5 := by rw [List.length_take]; omega
      omega
    refine .inr ⟨⟨_, _, sq, hx0⟩, fun G' => Same H G' ∧ ∃ ys, G' D = some (.lst ys) ∧ Each PlV G' ys (placesE (ps.take (i + 1))), fun G' p' => ⟨ps.length - (i + 1), by omega, rfl, hlt, p'⟩, fun x G' y => ?_⟩
    obtain ⟨e, y⟩ := y
    subst G'
    have hx := y _ sq
    rw [hx0] at hx
    cases hx
    refine ⟨rfl, ?_⟩
    unfold tYes
    dsimp only
    rw [if_pos rfl]
    have pa := pa0.same sG
    obtain ⟨_, dx, lw, ld, lr, lt, lc, _, _, _, _, hins, _⟩ := id pa
    refine ⟨_, rfl, a, dx, _, rfl, hins, pfs_no (by decide +kernel), a, p, H, rfl, pa0, sG, fun l bs hl' lb hB => ?_⟩
    have g1 : Same G (upd G l (.lst (bs.map V.ref))) := same_upd hl' _
    have v1 : (upd G l (.lst (bs.map V.ref))) l = some (.lst (bs.map V.ref)) := upd_same
    have lD : l ≠ D := (ne_of_none dG hl').symm
    have dG1 := g1 _ _ dG
    have eG1 := eG.imp (R' := PlV) (H' := upd G l (.lst (bs.map V.ref))) fun v x h => h.same g1
    have s1 := sG.trans g1
    generalize upd G l (.lst (bs.map V.ref)) = G1 at g1 v1 dG1 eG1 s1
    refine ⟨l, _, rfl, SqL.of v1, fun j m G2 => m = bs.length - j ∧ j ≤ bs.length ∧ Same H G2 ∧ SameOff [D] G1 G2 ∧ ∃ ys, G2 D = some (.lst ys) ∧ Each PlV G2 ys (placesE (ps.take i) ++ placesD p.name 0 (p.ds.take j)), ⟨bs.length, by simp, Nat.zero_le _, s1, SameOff.refl _ _, ys, dG1, by simpa [placesD] using eG1⟩, ?_⟩
    rintro j m G2 ⟨rfl, hj, s2, o2, ys2, dG2, eG2⟩
    have v2 : G2 l = some (.lst (bs.map V.ref)) := o2 _ _ v1 (by simpa using lD)
    have sq2 : SqL K G2 l (bs.map V.ref) := SqL.of v2
    by_cases hlj : j < bs.length
    · have hbj : bs[j]? = some bs[j] := List.getElem?_eq_getElem hlj
      have hdj : p.ds[j]? = some (p.ds[j]'(by omega)) := List.getElem?_eq_getElem _
      have hbm : (bs.map V.ref)[j]? = some (.ref bs[j]) := by rw [List.getElem?_map, hbj]; rfl
      have db := hB j _ _ hbj hdj
      generalize bs[j] = b at hbj hbm db
      generalize p.ds[j]'(by omega) = d at hdj db
      have dtk : p.ds.take (j + 1) = p.ds.take j ++ [d] := by rw [List.take_succ, hdj]; rfl
      have ltk : (p.ds.take j).length = j := by rw [List.length_take]; omega
      refine .inr ⟨⟨_, _, sq2, hbm⟩, fun G3 => Same H G3 ∧ SameOff [D] G1 G3 ∧ ∃ ys, G3 D = some (.lst ys) ∧ Each PlV G3 ys (placesE (ps.take i) ++ placesD p.name 0 (p.ds.take (j + 1))), fun G3 p3 => ⟨bs.length - (j + 1), by omega, rfl, hlj, p3⟩, fun u G3 y3 => ?_⟩
      obtain ⟨Tp, x, rfl, nT, rfl, hxx⟩ := y3
      have hxe := hxx _ sq2
      rw [hbm] at hxe
      cases hxe
      have g3 : Same G2 (upd G2 Tp (.tup [.int (j : Nat), .ref b])) := same_upd nT _
      have t3 : (upd G2 Tp (.tup [.int (j : Nat), .ref b])) Tp = some (.tup [.int (j : Nat), .ref b]) := upd_same
      refine ⟨Tp, _, rfl, SqT.of t3, rfl, _, _, rfl, _, _, rfl, rfl, rfl, ?_⟩
      have eG3 := eG2.imp (R' := PlV) (H' := upd G2 Tp (.tup [.int (j : Nat), .ref b])) fun v x h => h.same g3
      have dG3 := g3 _ _ dG2
      have s3 := s2.trans g3
      have o3 := o2.trans (Same.off (Ds := [D]) g3)
      have ly3 : ys2.length < 100 := by
        have h1 := eG2.1
        have h2 := placesD_len p.name (p.ds.take j) 0
        rw [List.length_append] at h1
        omega
      generalize upd G2 Tp (.tup [.int (j : Nat), .ref b]) = G3 at g3 t3 eG3 dG3 s3 o3
      have db3 := db.same s3
      obtain ⟨_, dxb, pb, hinb, _⟩ := id db3
      refine ⟨_, rfl, b, dxb, _, rfl, hinb, b, d, rfl, db3, d.l, rfl, ?_⟩
      cases hdl : d.l with
      | true =>
        refine iteF ⟨s3, o3, ys2, dG3, ?_⟩
        rw [dtk, placesD_snoc, hdl, if_pos rfl, List.append_nil]
        exact eG3
      | false =>
        have pa3 := pa0.same s3
        obtain ⟨_, dxa, lwa, lda, lra, lta, lca, _, _, _, _, hina, _⟩ := id pa3
        refine iteT ⟨_, rfl, a, dxa, _, rfl, hina, a, p, rfl, pa3, _, rfl, by show 2 ≤ sizeLine; decide, fun t ht => ?_⟩
        have g4 : Same G3 (upd G3 t (.tup [.str p.name, .int (j : Nat)])) := same_upd ht _
        have t4 : (upd G3 t (.tup [.str p.name, .int (j : Nat)])) t = some (.tup [.str p.name, .int (j : Nat)]) := upd_same
        have dG4 := g4 _ _ dG3
        have s4 := s3.trans g4
        have o4 := o3.trans (Same.off (Ds := [D]) g4)
        have eG4 := eG3.imp (R' := PlV) (H' := upd G3 t (.tup [.str p.name, .int (j : Nat)])) fun v x h => h.same g4
        generalize upd G3 t (.tup [.str p.name, .int (j : Nat)]) = G4 at g4 t4 dG4 s4 o4 eG4
        have LD : Lists [D] G4 := fun c hc => by
          rw [List.mem_singleton.mp hc]
          exact ⟨_, dG4⟩
        have o5 : SameOff [D] G4 (upd G4 D (.lst (ys2 ++ [.ref t]))) := off_upd (SameOff.refl _ _) (by simp)
        refine ⟨ys2, dG4, small1000 (by omega), fun c o e => ?_, o4.trans o5, ys2 ++ [.ref t], upd_same, ?_⟩
        · rw [upd_ne (ne_of_none e hD)]
          exact s4 _ _ e
        · rw [dtk, placesD_snoc, hdl, if_neg Bool.false_ne_true, ltk, ← List.append_assoc]
          exact Each.snoc (eG4.imp fun v x h => h.off o5 LD) ((show PlV G4 (.ref t) (p.name, 0 + j) from ⟨t, rfl, by rw [Nat.zero_add]; exact t4⟩).off o5 LD)
    · have e : j = bs.length := by omega
      subst e
      refine .inl ⟨⟨_, sq2, by rw [List.length_map]; exact Nat.le_refl _⟩, s2, ys2, dG2, ?_⟩
      rw [etk, placesE_snoc]
      rw [show p.ds.take bs.length = p.ds from List.take_of_length_le (by omega)] at eG2
      exact eG2
  · have e : i = ps.length := by omega
    subst e
    refine .inl ⟨⟨_, sq, by omega⟩, ?_⟩
    rw [List.take_length] at eG
    exact k G D ys sG hD dG eG
end
end TS
namespace TS
open PySem L2
abbrev sWrong : Stmt := top 97
/-- processes and inputs that make a Program -/
structure ProgOk (ps : List ProcD) (ins : List Str) : Prop where
  p1 : 1 ≤ ps.length
  p5 : ps.length ≤ 5
  nd : (ps.map (·.name)).Nodup
  iok : ∀ x ∈ ins, WordOk x
  ind : ins.Nodup
  i1 : 1 ≤ ins.length
  i3 : ins.length ≤ 3
  ino : ∀ x ∈ ins, ∀ p ∈ ps, ¬ p.written x
  vars : ∀ l : List Str, l.Nodup → (∀ x ∈ l, VarOf ps ins x) → l.length ≤ 5
  cons : ∀ l : List Int, l.Nodup → (∀ x ∈ l, ConOf ps x) → l.length ≤ 2
  once : (placesE ps).length ≤ 8
section
variable {P : Program} {w : World} {K : PySem.W.Frag} {mg : Str → Option Value} {base : Heap}
structure ProgM (P : Program) (w : World) (K : PySem.W.Frag) (mg : Str → Option Value) (base : Heap) (PC CD C : Addr) : Prop where
  arep : Has P w K mg base "_are_processes" 3 ["values"] (spAreP PC CD C)
  unl : Has P w K mg base "are_unlike" 1 ["words"] spUnlike
  arei : Has P w K mg base "_are_inputs" 4 ["values", "processes"] (spAreI PC CD C)
  vars : Has P w K mg base "_variables_of" 2 ["processes", "inputs"] (spVarsOf PC CD C)
  cons : Has P w K mg base "_constants_of" 2 ["processes"] (spConsOf PC CD C)
  places : Has P w K mg base "_places_of" 3 ["processes"] (spPlacesOf PC CD C)
  name : HasP P w K mg base PC "name" 1 (spPName PC CD C)
abbrev nmWrong : List Str := ["processes", "inputs", "process"]
theorem scWrong : FnScope nmWrong ["processes", "inputs"] (defScope sWrong) := ⟨rfl, rfl, rfl, by decide +kernel, rfl, by decide +kernel, by decide +kernel⟩
def spWrong (PC CD C : Addr) : Sp := fun vs H Q _ => ∃ (q li : Addr) (ps : List ProcD) (ins : List Str), vs = [.ref q, .ref li] ∧ ProcsAt PC CD C H q ps ∧ H li = some (.lst (ins.map V.str)) ∧ ProgOk ps ins ∧ ∀ H', Same H H' → Q .non H'
/-- [process.name for process in processes] -/
theorem lc_names {PC CD C q D : Addr} {as : List Addr} {ps : List ProcD} {k : Nat} {te : TE} {σ : St} {H : Hp} {Qd : Hp → Prop} (hq : H q = some (.lst (as.map V.ref))) (la : as.length = ps.length) (l5 : ps.length ≤ 5) (hD : H D = none) (hw : ∀ v, wipe ((wipe σ [k]).set k v) [k] = wipe σ [k])
    (step : ∀ (i : Nat) a p (H1 : Hp) (R : VK), as[i]? = some a → ps[i]? = some p → Same H H1 → (R (.str p.name) H1) → te ((wipe σ [k]).set k (some (.ref a))) H1 R)
    (hd : ∀ H1, Same H H1 → H1 D = some (.lst ((ps.map (·.name)).map V.str)) → Qd H1) :
    ∃ W : Nat → Nat → Hp → Prop, (∃ m, W 0 m (upd H D (.lst []))) ∧ ∀ i m H, W i m H →
      ((Itl K q).stop i H ∧ Qd H) ∨ ((Itl K q).go i H ∧ ∃ Nx : Hp → Prop, (∀ H', Nx H' → ∃ m', m' < m ∧ W (i + 1) m' H') ∧ ∀ x H', (Itl K q).yld i H x H' → gName k x (wipe σ [k]) H' fun σ2 H2 => wipe σ2 [k] = wipe σ [k] ∧ tYes σ2 H2 fun b H3 =>
        if b = true then te σ2 H3 fun y H4 => ∃ acc, H4 D = some (.lst acc) ∧ acc.length < sizeLine ∧ Nx (upd H4 D (.lst (acc ++ [y]))) else Nx H3) := by
  have hl : (as.map V.ref).length = ps.length := by rw [List.length_map, la]
  refine lc_eachL (K := K) (fun _ v (p : ProcD) => v = .str p.name) (ts := ps) hq hl.symm (by omega) hD hw (fun i v x H2 G hv hx s2 hL hG => ?_) (fun H2 ys s2 d2 e2 => hd H2 s2 ?_)
  · obtain ⟨a, ha, rfl⟩ := map_at hv
    exact step i a x H2 _ ha hx s2 (hG _ H2 (Same.refl _) fun _ _ => rfl)
  · have ey : ys = (ps.map (·.name)).map V.str := by
      refine List.ext_getElem? fun i => ?_
      rw [List.map_map, List.getElem?_map]
      by_cases c : i < ys.length
      · have ht : ps[i]? = some (ps[i]'(by rw [← e2.1]; exact c)) := List.getElem?_eq_getElem _
        rw [ht, List.getElem?_eq_getElem c, e2.2 i _ _ (List.getElem?_eq_getElem c) ht]
        rfl
      · rw [List.getElem?_eq_none (by omega), List.getElem?_eq_none (by rw [← e2.1]; omega)]
        rfl
    rw [← ey]
    exact d2
theorem ok_wrong {PC CD C f : Addr} {fd : FuncData} (F : Fun K "_wrong_part" "_wrong_part" sWrong f fd) (T : BltT mg) (PK : ProcK K mg PC) (M : ProgM P w K mg base PC CD C) (m5 : ∃ t, mg "MOST_VARIABLES" = some (.int 5 t)) (m2 : ∃ t, mg "MOST_CONSTANTS" = some (.int 2 t)) (m8 : ∃ t, mg "MOST_AT_ONCE" = some (.int 8 t)) :
    FnOk P w K mg base CX0 5 f fd ["processes", "inputs"] (spWrong PC CD C) := by
  obtain ⟨f1, fd1, n1, k1, b1, G1⟩ := M.arep
  obtain ⟨f2, fd2, n2, k2, b2, G2⟩ := M.unl
  obtain ⟨f3, fd3, n3, k3, b3, G3⟩ := M.arei
  obtain ⟨f4, fd4, n4, k4, b4, G4⟩ := M.vars
  obtain ⟨f5, fd5, n5, k5, b5, G5⟩ := M.cons
  obtain ⟨f6, fd6, n6, k6, b6, G6⟩ := M.places
  obtain ⟨p7, g7, fd7, h7, b7, G7⟩ := M.name
  obtain ⟨t5, m5⟩ := m5
  obtain ⟨t2, m2⟩ := m2
  obtain ⟨t8, m8⟩ := m8
  refine F.ok scWrong (fun vs H Q E h => ?_) (fun cdv A outer s H vs Q E hr h => ?_)
  · obtain ⟨q, li, ps, ins, rfl, _⟩ := h
    rfl
  obtain ⟨q, li, ps, ins, rfl, hP, hli, ok, k⟩ := h
  have r1 : Room 1 _ := hr.mono (by decide)
  have r2 : Room 2 _ := hr.mono (by decide)
  have r3 : Room 3 _ := hr.mono (by decide)
  refine ⟨_, pss_cons (ps_if (pt_not (pt_val (pe_call G1 r3 rfl n1 k1 b1 .nil pass0 (pa_cons (pv 0) pa_nil)))) (pss_one (ps_ret pe_str)) pss_nil)
    (pss_cons (ps_if (pt_not (pt_val (pe_call G2 r1 rfl n2 k2 b2 .nil pass0 (pa_cons (pe_lc (own := [("process", 2)]) (g := gName 2) (tt := tYes) (by rfl) scWrong.nd (pi_list (pv 0)) (blkOk_by (own := [("process", 2)]) (N := nmWrong) (sc := defScope sWrong) (by decide +kernel)) (fun _ _ _ _ _ => pg_name (i := 2) scWrong.nd rfl (Or.inl rfl)) (fun _ _ _ _ _ => pts_nil)
        (fun _ _ _ _ _ => pe_prop (pv 2) PK.cl h7 G7 r2 b7 .nil pass0 rfl)) pa_nil)))) (pss_one (ps_ret pe_str)) pss_nil)
    (pss_cons (ps_if (pt_not (pt_val (pe_call G3 hr rfl n3 k3 b3 .nil pass0 (pa_cons (pv 1) (pa_cons (pv 0) pa_nil))))) (pss_one (ps_ret pe_str)) pss_nil)
    (pss_cons (ps_if (pt_cmpR op_gt (pe_callB call_len_seq (by rfl) T.len PySem.boot_len (pa_cons (pe_call G4 r2 rfl n4 k4 b4 .nil pass0 (pa_cons (pv 0) (pa_cons (pv 1) pa_nil))) pa_nil)) (pe_glob rfl m5 (show RelV (.int 5) (.int 5 t5) from ⟨_, rfl⟩)) (nomark _)) (pss_one (ps_ret pe_str)) pss_nil)
    (pss_cons (ps_if (pt_cmpR op_gt (pe_callB call_len_seq (by rfl) T.len PySem.boot_len (pa_cons (pe_call G5 r2 rfl n5 k5 b5 .nil pass0 (pa_cons (pv 0) pa_nil)) pa_nil)) (pe_glob rfl m2 (show RelV (.int 2) (.int 2 t2) from ⟨_, rfl⟩)) (nomark _)) (pss_one (ps_ret pe_str)) pss_nil)
    (pss_cons (ps_if (pt_cmpR op_gt (pe_callB call_len_seq (by rfl) T.len PySem.boot_len (pa_cons (pe_call G6 r3 rfl n6 k6 b6 .nil pass0 (pa_cons (pv 0) pa_nil)) pa_nil)) (pe_glob rfl m8 (show RelV (.int 8) (.int 8 t8) from ⟨_, rfl⟩)) (nomark _)) (pss_one (ps_ret pe_str)) pss_nil)
    (pss_one (ps_ret pe_non))))))), ?_⟩
  refine ⟨_, rfl, q, ps, rfl, hP, ok.p1, ok.p5, fun H1 s1 => ⟨_, rfl, iteF ?_⟩⟩
  obtain ⟨as, hq, la, hA⟩ := id (hP.same s1)
  refine ⟨_, rfl, q, rfl, ⟨_, SqL.of hq⟩, fun D hD => lc_names (PC := PC) (CD := CD) (C := C) hq la ok.p5 hD (fun _ => rfl) (fun i a p H2 R ha hp s2 hR => ?_) (fun H2 s2 d2 => ?_)⟩
  · have pa := (hA i a p ha hp).same s2
    obtain ⟨_, dxa, lwa, lda, lra, lta, lca, _, _, _, _, hina, _⟩ := id pa
    exact ⟨_, rfl, a, dxa, _, rfl, hina, a, p, rfl, pa, hR⟩
  have hn : (ps.map (·.name)).length < 64 := by
    rw [List.length_map]
    have := ok.p5
    omega
  refine ⟨D, _, rfl, d2, ok.nd, hn, fun H3 s3 => ⟨_, rfl, iteF ?_⟩⟩
  have g3 := (s1.trans s2).trans s3
  refine ⟨_, rfl, _, rfl, li, q, ps, ins, rfl, hP.same g3, ok.p5, g3 _ _ hli, ok.iok, ok.ind, ok.i1, ok.i3, ok.ino, fun H4 s4 => ⟨_, rfl, iteF ?_⟩⟩
  have g4 := g3.trans s4
  have v6 : ∀ l : List Str, l.Nodup → (∀ x ∈ l, VarOf ps ins x) → l.length < 64 := fun l a b => by
    have := ok.vars l a b
    omega
  have c6 : ∀ l : List Int, l.Nodup → (∀ x ∈ l, ConOf ps x) → l.length < 64 := fun l a b => by
    have := ok.cons l a b
    omega
  refine ⟨_, rfl, _, rfl, q, li, ps, ins, rfl, hP.same g4, g4 _ _ hli, ok.p5, by have := ok.i3; omega, v6, fun H5 l5 vs s5 nl5 hl5 hvs => ?_⟩
  have e5 := ok.vars vs hvs.nd fun x hx => (hvs.mem x).mp hx
  refine ⟨l5, _, rfl, .inl (SqL.of hl5), _, _, rfl, rfl, _, rfl, ?_⟩
  rw [show decide (((((vs.map V.str).length : Nat) : Int)) > 5) = false from decide_eq_false (by rw [List.length_map]; omega)]
  refine iteF ?_
  have g5 := g4.trans s5
  refine ⟨_, rfl, q, ps, rfl, hP.same g5, ok.p5, c6, fun H6 l6 cs s6 nl6 hl6 hcs => ?_⟩
  have e6 := ok.cons cs hcs.nd fun x hx => (hcs.mem x).mp hx
  refine ⟨l6, _, rfl, .inl (SqL.of hl6), _, _, rfl, rfl, _, rfl, ?_⟩
  rw [show decide (((((cs.map V.int).length : Nat) : Int)) > 2) = false from decide_eq_false (by rw [List.length_map]; omega)]
  refine iteF ?_
  have g6 := g5.trans s6
  refine ⟨_, rfl, q, ps, rfl, hP.same g6, ok.p5, fun H7 l7 ys s7 nl7 hl7 hys => ?_⟩
  have e7 := ok.once
  refine ⟨l7, _, rfl, .inl (SqL.of hl7), _, _, rfl, rfl, _, rfl, ?_⟩
  rw [show decide ((((ys.length : Nat) : Int)) > 8) = false from decide_eq_false (by rw [hys.1]; omega)]
  exact iteF (k _ (g6.trans s7))
end
end TS
namespace TS
open PySem L2
abbrev sGInit : Stmt := (inClass (top 100) 0)
theorem nodup_same {α : Type} {l : List α} (h : l.Nodup) {i j : Nat} {x : α} (hi : l[i]? = some x) (hj : l[j]? = some x) : i = j := by
  have hp : l.Pairwise (· ≠ ·) := h
  rw [List.pairwise_iff_getElem] at hp
  obtain ⟨a, ea⟩ := List.getElem?_eq_some_iff.mp hi
  obtain ⟨b, eb⟩ := List.getElem?_eq_some_iff.mp hj
  by_cases c : i < j
  · exact absurd (ea.trans eb.symm) (hp i j a b c)
  · by_cases c2 : j < i
    · exact absurd (eb.trans ea.symm) (hp j i b a c2)
    · omega
/-- names to Processes -/
def byName (as : List Addr) (ps : List ProcD) : List (Key × V) := (as.zip ps).map fun x => (Sum.inr x.2.name, V.ref x.1)
theorem byName_at {as : List Addr} {ps : List ProcD} {i : Nat} {a : Addr} {p : ProcD} (ha : as[i]? = some a) (hp : ps[i]? = some p) : (byName as ps)[i]? = some (Sum.inr p.name, V.ref a) := by
  unfold byName
  rw [List.getElem?_map, List.getElem?_zip_eq_some.mpr (show as[i]? = some (a, p).1 ∧ ps[i]? = some (a, p).2 from ⟨ha, hp⟩)]
  rfl
theorem byName_put {as : List Addr} {ps : List ProcD} {i : Nat} {a : Addr} {p : ProcD} (nd : (ps.map (·.name)).Nodup) (ha : as[i]? = some a) (hp : ps[i]? = some p) :
    putK ((byName as ps).take i) (Sum.inr p.name) (.ref a) = (byName as ps).take (i + 1) := by
  have no : ((byName as ps).take i).any (fun kv => decide (kv.1 = Sum.inr p.name)) = false := by
    rw [List.any_eq_false]
    intro kv hkv e
    have e := of_decide_eq_true e
    obtain ⟨j, hj, ej⟩ := List.getElem_of_mem hkv
    rw [List.length_take] at hj
    have h1 : ((byName as ps).take i)[j]? = some kv := by rw [← ej]; exact List.getElem?_eq_getElem _
    rw [List.getElem?_take, if_pos (by omega)] at h1
    unfold byName at h1
    obtain ⟨x, hx, rfl⟩ := map_at h1
    obtain ⟨_, hx2⟩ := List.getElem?_zip_eq_some.mp hx
    have e2 : x.2.name = p.name := by
      have e : (Sum.inr x.2.name : Key) = Sum.inr p.name := e
      injection e
    have := nodup_same nd (i := j) (j := i) (x := p.name) (by rw [List.getElem?_map, hx2, ← e2]; rfl) (by rw [List.getElem?_map, hp]; rfl)
    omega
  unfold putK
  rw [no, if_neg Bool.false_ne_true, List.take_succ, byName_at ha hp]
  rfl
theorem ProcAt.sameX {PC CD C p a PR dx : Addr} {H H' : Hp} {d : ProcD} (h : ProcAt PC CD C H a d) (s : SameX p H H') (hp : H p = some (.ins PR dx [])) : ProcAt PC CD C H' a d := by
  obtain ⟨ok, dxa, lw, ld, lr, lt, lc, as, rs, ts, cs, h1, h2, h3, h4, h5, h6, h7, h8, h9, h10, h11⟩ := h
  have nl : ∀ {b : Addr} {xs : List V}, H b = some (.lst xs) → b ≠ p := fun hb => ne_of hb hp (by intro z; cases z)
  have na : a ≠ p := fun z => by
    subst z
    rw [hp] at h1
    have e2 : ([] : List (Str × V)) = pfs d.name lw ld lr lt lc := by
      injection h1 with h1
      injection h1
    have := pfs_name d.name lw ld lr lt lc
    rw [← e2] at this
    cases this
  refine ⟨ok, dxa, lw, ld, lr, lt, lc, as, rs, ts, cs, s _ _ h1 na, s _ _ h2 (nl h2), s _ _ h3 (nl h3), h4, fun i b e x y => ?_, s _ _ h6 (nl h6), h7, s _ _ h8 (nl h8), h9, s _ _ h10 (nl h10), h11⟩
  have hd := h5 i b e x y
  refine hd.sameX s hp fun z => ?_
  subst z
  obtain ⟨_, dxb, pb, hb, _⟩ := hd
  rw [hp] at hb
  have e2 : ([] : List (Str × V)) = dfs e.x pb e.l (deedText e.x e.l e.t) := by
    injection hb with hb
    injection hb
  have := dfs_text e.x pb e.l (deedText e.x e.l e.t)
  rw [← e2] at this
  cases this
def gfs (lp ln lb li lv lc lq : Addr) : List (Str × V) := putF "_places" (.ref lq) (putF "_constants" (.ref lc) (putF "_variables" (.ref lv) (putF "_inputs" (.ref li) (putF "_by_name" (.ref lb) (putF "_names" (.ref ln) (putF "_processes" (.ref lp) []))))))
/-- a Program's own lists -/
def ProgF (PR : Addr) (H : Hp) (a : Addr) (as : List Addr) (ps : List ProcD) (ins : List Str) : Prop :=
  ∃ (dx lp ln lb li lv lc lq : Addr) (vs : List Str) (cs : List Int) (ys : List V), H a = some (.ins PR dx (gfs lp ln lb li lv lc lq)) ∧ H lp = some (.lst (as.map V.ref)) ∧ H ln = some (.lst ((ps.map (·.name)).map V.str)) ∧ H lb = some (.dK (byName as ps)) ∧ H li = some (.lst (ins.map V.str)) ∧
    H lv = some (.lst (vs.map V.str)) ∧ SetS' vs (VarOf ps ins) ∧ H lc = some (.lst (cs.map V.int)) ∧ SetI' cs (ConOf ps) ∧ H lq = some (.lst ys) ∧ Each PlV H ys (placesE ps)
section
variable {P : Program} {w : World} {K : PySem.W.Frag} {mg : Str → Option Value} {base : Heap}
structure ProgK (K : PySem.W.Frag) (mg : Str → Option Value) (PR : Addr) : Prop where
  cl : Cls K PR
  mgC : mg "Program" = some (.ref PR)
  n1 : NoAttr K PR "_processes"
  n2 : NoAttr K PR "_names"
  n3 : NoAttr K PR "_by_name"
  n4 : NoAttr K PR "_inputs"
  n5 : NoAttr K PR "_variables"
  n6 : NoAttr K PR "_constants"
  n7 : NoAttr K PR "_places"
abbrev nmGInit : List Str := ["self", "processes", "inputs", "wrong", "process"]
theorem scGInit : FnScope nmGInit ["self", "processes", "inputs"] (defScope sGInit) := ⟨rfl, rfl, rfl, by decide +kernel, rfl, by decide +kernel, by decide +kernel⟩
def spGInit (PR PC CD C : Addr) : Sp := fun vs H Q _ => ∃ (p dx q li : Addr) (as : List Addr) (ps : List ProcD) (ins : List Str), vs = [.ref p, .ref q, .ref li] ∧ H p = some (.ins PR dx []) ∧ H q = some (.lst (as.map V.ref)) ∧ as.length = ps.length ∧ (∀ (i : Nat) a d, as[i]? = some a → ps[i]? = some d → ProcAt PC CD C H a d) ∧ H li = some (.lst (ins.map V.str)) ∧ ProgOk ps ins ∧
  ∀ H', SameX p H H' → (∀ Ds, Lists Ds H → ∀ G, SameOff Ds H' G → ProgF PR G p as ps ins) → Q .non H'
theorem ok_ginit {PR PC CD C f : Addr} {fd : FuncData} (F : Fun K "__init__" "Program.__init__" sGInit f fd) (T : BltT mg) (ml : mg "list" = none) (PK : ProcK K mg PC) (GK : ProgK K mg PR) (M : ProgM P w K mg base PC CD C) (DW : Has P w K mg base "_wrong_part" 5 ["processes", "inputs"] (spWrong PC CD C)) :
    FnOk P w K mg base CX0 6 f fd ["self", "processes", "inputs"] (spGInit PR PC CD C) := by
  obtain ⟨f1, fd1, n1, k1, b1, G1⟩ := DW
  obtain ⟨f4, fd4, n4, k4, b4, G4⟩ := M.vars
  obtain ⟨f5, fd5, n5, k5, b5, G5⟩ := M.cons
  obtain ⟨f6, fd6, n6, k6, b6, G6⟩ := M.places
  obtain ⟨p7, g7, fd7, h7, b7, G7⟩ := M.name
  refine F.ok scGInit (fun vs H Q E h => ?_) (fun cdv A outer s H vs Q E hr h => ?_)
  · obtain ⟨p, dx, q, li, as, ps, ins, rfl, _⟩ := h
    rfl
  obtain ⟨p, dx, q, li, as, ps, ins, rfl, hp, hq, la, hA, hli, ok, k⟩ := h
  have r2 : Room 2 _ := hr.mono (by decide)
  have r3 : Room 3 _ := hr.mono (by decide)
  refine ⟨_, pss_cons (ps_set (i := 3) scGInit.nd rfl (.inl rfl) (pe_call G1 hr rfl n1 k1 b1 .nil pass0 (pa_cons (pv 1) (pa_cons (pv 2) pa_nil))))
    (pss_cons (ps_if (pt_cmpR op_notN (pv 3) pe_non (nomark _)) (pss_one ps_dead) pss_nil)
    (pss_cons (ps_fld (pv 0) (pe_callTy call_list_of (by rfl) ml (by decide +kernel) (pa_cons (pv 1) pa_nil)) rfl)
    (pss_cons (ps_fld (pv 0) (pe_lc (own := [("process", 4)]) (g := gName 4) (tt := tYes) (by rfl) scGInit.nd (pi_list (pv 1)) (blkOk_by (own := [("process", 4)]) (N := nmGInit) (sc := defScope sGInit) (by decide +kernel)) (fun _ _ _ _ _ => pg_name (i := 4) scGInit.nd rfl (Or.inl rfl)) (fun _ _ _ _ _ => pts_nil)
        (fun _ _ _ _ _ => pe_prop (pv 4) PK.cl h7 G7 r2 b7 .nil pass0 rfl)) rfl)
    (pss_cons (ps_fld (pv 0) (pe_dc (own := [("process", 4)]) (g := gName 4) (tt := tYes) (by rfl) scGInit.nd (pi_list (pv 1)) (blkOk_by (own := [("process", 4)]) (N := nmGInit) (sc := defScope sGInit) (by decide +kernel)) (fun _ _ _ _ _ => pg_name (i := 4) scGInit.nd rfl (Or.inl rfl)) (fun _ _ _ _ _ => pts_nil)
        (fun _ _ _ _ _ => pe_prop (pv 4) PK.cl h7 G7 r2 b7 .nil pass0 rfl) (fun _ _ _ _ _ => pv 4)) rfl)
    (pss_cons (ps_fld (pv 0) (pe_callTy call_list_of (by rfl) ml (by decide +kernel) (pa_cons (pv 2) pa_nil)) rfl)
    (pss_cons (ps_fld (pv 0) (pe_call G4 r2 rfl n4 k4 b4 .nil pass0 (pa_cons (pv 1) (pa_cons (pv 2) pa_nil))) rfl)
    (pss_cons (ps_fld (pv 0) (pe_call G5 r2 rfl n5 k5 b5 .nil pass0 (pa_cons (pv 1) pa_nil)) rfl)
    (pss_one (ps_fld (pv 0) (pe_call G6 r3 rfl n6 k6 b6 .nil pass0 (pa_cons (pv 1) pa_nil)) rfl))))))))), ?_⟩
  have qp : q ≠ p := ne_of hq hp (by intro z; cases z)
  have lip : li ≠ p := ne_of hli hp (by intro z; cases z)
  refine ⟨_, rfl, _, rfl, q, li, ps, ins, rfl, ⟨as, hq, la, hA⟩, hli, ok, fun H1 s1 => ?_⟩
  refine ⟨_, rfl, rfl, _, rfl, iteF ?_⟩
  have v6 : ∀ l : List Str, l.Nodup → (∀ x ∈ l, VarOf ps ins x) → l.length < 64 := fun l a b => by
    have := ok.vars l a b
    omega
  have c6 : ∀ l : List Int, l.Nodup → (∀ x ∈ l, ConOf ps x) → l.length < 64 := fun l a b => by
    have := ok.cons l a b
    omega
  have p5 := ok.p5
  have i3 := ok.i3
  have hl : (as.map V.ref).length = ps.length := by rw [List.length_map, la]
  have pA : ∀ {A : Hp}, SameX p H A → ∀ (i : Nat) a d, as[i]? = some a → ps[i]? = some d → ProcAt PC CD C A a d := fun x i a d ha hd => (hA i a d ha hd).sameX x hp
  have psA : ∀ {A : Hp}, SameX p H A → ProcsAt PC CD C A q ps := fun x => ⟨as, x _ _ hq qp, la, pA x⟩
  have fr : ∀ {A : Hp} {b : Addr}, SameX p H A → A b = none → b ≠ p → H b = none := fun {A b} x hb n => by
    cases e : H b with
    | none => rfl
    | some o =>
      rw [x _ _ e n] at hb
      cases hb
  have x0 : SameX p H H1 := Same.x s1
  have q0 : H1 p = some (.ins PR dx []) := s1 _ _ hp
  have c0 : ([] : List (Str × V)).length ≤ 0 := Nat.le_refl 0
  generalize ez0 : ([] : List (Str × V)) = z0 at q0 c0
  generalize H1 = A0 at x0 q0
  clear s1
  -- _processes
  refine ⟨_, rfl, q, _, rfl, .inl (SqL.of (x0 _ _ hq qp)), fun lp hlp => ⟨_, rfl, p, PR, dx, z0, rfl, same_upd hlp _ _ _ q0, GK.cl, GK.n1, by omega, ?_⟩⟩
  have gB : Same A0 (upd A0 lp (.lst (as.map V.ref))) := same_upd hlp _
  have vlp : (upd A0 lp (.lst (as.map V.ref))) lp = some (.lst (as.map V.ref)) := upd_same
  generalize upd A0 lp (.lst (as.map V.ref)) = B at gB vlp
  have plp : lp ≠ p := (ne_of_none q0 hlp).symm
  have hlp0 : H lp = none := fr x0 hlp plp
  generalize ez1 : putF "_processes" (.ref lp) z0 = z1
  have c1 : z1.length ≤ 1 := by
    rw [← ez1]
    exact few c0
  have x1 : SameX p H (upd B p (.ins PR dx z1)) := sx_upd (x0.trans (Same.x gB))
  have q1 : (upd B p (.ins PR dx z1)) p = some (.ins PR dx z1) := upd_same
  replace vlp := lst_upd (u := .ins PR dx z1) vlp plp
  generalize upd B p (.ins PR dx z1) = A1 at x1 q1 vlp
  clear gB hlp
  clear B
  -- _names
  refine ⟨_, rfl, q, rfl, ⟨_, SqL.of (x1 _ _ hq qp)⟩, fun ln hln => lc_names (PC := PC) (CD := CD) (C := C) (x1 _ _ hq qp) la p5 hln (fun _ => rfl) (fun i a d H2 R ha hd s2 hR => ?_) (fun B gB vln => ⟨_, rfl, p, PR, dx, z1, rfl, gB _ _ q1, GK.cl, GK.n2, by omega, ?_⟩)⟩
  · have pa := (pA x1 i a d ha hd).same s2
    obtain ⟨_, dxa, lwa, lda, lra, lta, lca, _, _, _, _, hina, _⟩ := id pa
    exact ⟨_, rfl, a, dxa, _, rfl, hina, a, d, rfl, pa, hR⟩
  have pln : ln ≠ p := (ne_of_none q1 hln).symm
  have hln0 : H ln = none := fr x1 hln pln
  replace vlp := gB _ _ vlp
  generalize ez2 : putF "_names" (.ref ln) z1 = z2
  have c2 : z2.length ≤ 2 := by
    rw [← ez2]
    exact few c1
  have x2 : SameX p H (upd B p (.ins PR dx z2)) := sx_upd (x1.trans (Same.x gB))
  have q2 : (upd B p (.ins PR dx z2)) p = some (.ins PR dx z2) := upd_same
  replace vlp := lst_upd (u := .ins PR dx z2) vlp plp
  replace vln := lst_upd (u := .ins PR dx z2) vln pln
  generalize upd B p (.ins PR dx z2) = A2 at x2 q2 vlp vln
  clear gB hln
  clear B
  -- _by_name
  refine ⟨_, rfl, q, rfl, ⟨_, SqL.of (x2 _ _ hq qp)⟩, fun lb hlb => ⟨fun i m G => m = ps.length - i ∧ i ≤ ps.length ∧ Same A2 G ∧ G lb = some (.dK ((byName as ps).take i)), ⟨ps.length, by simp, Nat.zero_le _, same_upd hlb _, by rw [upd_same]; rfl⟩, ?_⟩⟩
  rintro i m B ⟨rfl, hi, gB, vlb⟩
  have sq : SqL K B q (as.map V.ref) := SqL.of (gB _ _ (x2 _ _ hq qp))
  by_cases hlt : i < ps.length
  · have hpi : ps[i]? = some ps[i] := List.getElem?_eq_getElem hlt
    have hai : as[i]? = some (as[i]'(by omega)) := List.getElem?_eq_getElem _
    have hx0 : (as.map V.ref)[i]? = some (.ref (as[i]'(by omega))) := by rw [List.getElem?_map, hai]; rfl
    have pa := (pA x2 i _ _ hai hpi).same gB
    generalize as[i]'(by omega) = a at hai hx0 pa
    generalize ps[i] = d at hpi pa
    refine .inr ⟨⟨_, _, sq, hx0⟩, fun G' => Same A2 G' ∧ G' lb = some (.dK ((byName as ps).take (i + 1))), fun G' p' => ⟨ps.length - (i + 1), by omega, rfl, hlt, p'⟩, fun x G' y => ?_⟩
    obtain ⟨e, y⟩ := y
    subst G'
    have hx := y _ sq
    rw [hx0] at hx
    cases hx
    refine ⟨rfl, ?_⟩
    unfold tYes
    dsimp only
    rw [if_pos rfl]
    obtain ⟨_, dxa, lwa, lda, lra, lta, lca, _, _, _, _, hina, _⟩ := id pa
    refine ⟨_, rfl, a, dxa, _, rfl, hina, a, d, rfl, pa, _, rfl, (byName as ps).take i, Sum.inr d.name, rfl, vlb, ?_, fun b o e => ?_, ?_⟩
    · rw [List.length_take]
      exact small1000 (by omega)
    · rw [upd_ne (ne_of_none e hlb)]
      exact gB _ _ e
    · rw [upd_same, byName_put ok.nd hai hpi]
  have e : i = ps.length := by omega
  subst e
  have lby : (byName as ps).length ≤ ps.length := by
    unfold byName
    rw [List.length_map, List.length_zip]
    omega
  rw [List.take_of_length_le lby] at vlb
  refine .inl ⟨⟨_, sq, by omega⟩, ⟨_, rfl, p, PR, dx, z2, rfl, gB _ _ q2, GK.cl, GK.n3, by omega, ?_⟩⟩
  clear sq hlt hi
  have plb : lb ≠ p := (ne_of_none q2 hlb).symm
  have hlb0 : H lb = none := fr x2 hlb plb
  replace vlp := gB _ _ vlp
  replace vln := gB _ _ vln
  generalize ez3 : putF "_by_name" (.ref lb) z2 = z3
  have c3 : z3.length ≤ 3 := by
    rw [← ez3]
    exact few c2
  have x3 : SameX p H (upd B p (.ins PR dx z3)) := sx_upd (x2.trans (Same.x gB))
  have q3 : (upd B p (.ins PR dx z3)) p = some (.ins PR dx z3) := upd_same
  replace vlp := lst_upd (u := .ins PR dx z3) vlp plp
  replace vln := lst_upd (u := .ins PR dx z3) vln pln
  replace vlb := lst_upd (u := .ins PR dx z3) vlb plb
  generalize upd B p (.ins PR dx z3) = A3 at x3 q3 vlp vln vlb
  clear gB hlb
  -- _inputs
  refine ⟨_, rfl, li, _, rfl, .inl (SqL.of (x3 _ _ hli lip)), fun li2 hli2 => ⟨_, rfl, p, PR, dx, z3, rfl, same_upd hli2 _ _ _ q3, GK.cl, GK.n4, by omega, ?_⟩⟩
  have gB : Same A3 (upd A3 li2 (.lst (ins.map V.str))) := same_upd hli2 _
  have vli2 : (upd A3 li2 (.lst (ins.map V.str))) li2 = some (.lst (ins.map V.str)) := upd_same
  generalize upd A3 li2 (.lst (ins.map V.str)) = B at gB vli2
  have pli2 : li2 ≠ p := (ne_of_none q3 hli2).symm
  have hli20 : H li2 = none := fr x3 hli2 pli2
  replace vlp := gB _ _ vlp
  replace vln := gB _ _ vln
  replace vlb := gB _ _ vlb
  generalize ez4 : putF "_inputs" (.ref li2) z3 = z4
  have c4 : z4.length ≤ 4 := by
    rw [← ez4]
    exact few c3
  have x4 : SameX p H (upd B p (.ins PR dx z4)) := sx_upd (x3.trans (Same.x gB))
  have q4 : (upd B p (.ins PR dx z4)) p = some (.ins PR dx z4) := upd_same
  replace vlp := lst_upd (u := .ins PR dx z4) vlp plp
  replace vln := lst_upd (u := .ins PR dx z4) vln pln
  replace vlb := lst_upd (u := .ins PR dx z4) vlb plb
  replace vli2 := lst_upd (u := .ins PR dx z4) vli2 pli2
  generalize upd B p (.ins PR dx z4) = A4 at x4 q4 vlp vln vlb vli2
  clear gB hli2
  clear B
  -- _variables
  refine ⟨_, rfl, _, rfl, q, li, ps, ins, rfl, psA x4, x4 _ _ hli lip, p5, by omega, v6, fun B lv vs gB hlv vlv hvs => ⟨_, rfl, p, PR, dx, z4, rfl, gB _ _ q4, GK.cl, GK.n5, by omega, ?_⟩⟩
  have plv : lv ≠ p := (ne_of_none q4 hlv).symm
  have hlv0 : H lv = none := fr x4 hlv plv
  replace vlp := gB _ _ vlp
  replace vln := gB _ _ vln
  replace vlb := gB _ _ vlb
  replace vli2 := gB _ _ vli2
  generalize ez5 : putF "_variables" (.ref lv) z4 = z5
  have c5 : z5.length ≤ 5 := by
    rw [← ez5]
    exact few c4
  have x5 : SameX p H (upd B p (.ins PR dx z5)) := sx_upd (x4.trans (Same.x gB))
  have q5 : (upd B p (.ins PR dx z5)) p = some (.ins PR dx z5) := upd_same
  replace vlp := lst_upd (u := .ins PR dx z5) vlp plp
  replace vln := lst_upd (u := .ins PR dx z5) vln pln
  replace vlb := lst_upd (u := .ins PR dx z5) vlb plb
  replace vli2 := lst_upd (u := .ins PR dx z5) vli2 pli2
  replace vlv := lst_upd (u := .ins PR dx z5) vlv plv
  generalize upd B p (.ins PR dx z5) = A5 at x5 q5 vlp vln vlb vli2 vlv
  clear gB hlv
  clear B
  -- _constants
  refine ⟨_, rfl, q, ps, rfl, psA x5, p5, c6, fun B lc cs gB hlc vlc hcs => ⟨_, rfl, p, PR, dx, z5, rfl, gB _ _ q5, GK.cl, GK.n6, by omega, ?_⟩⟩
  have plc : lc ≠ p := (ne_of_none q5 hlc).symm
  have hlc0 : H lc = none := fr x5 hlc plc
  replace vlp := gB _ _ vlp
  replace vln := gB _ _ vln
  replace vlb := gB _ _ vlb
  replace vli2 := gB _ _ vli2
  replace vlv := gB _ _ vlv
  generalize ez6 : putF "_constants" (.ref lc) z5 = z6
  have c6 : z6.length ≤ 6 := by
    rw [← ez6]
    exact few c5
  have x6 : SameX p H (upd B p (.ins PR dx z6)) := sx_upd (x5.trans (Same.x gB))
  have q6 : (upd B p (.ins PR dx z6)) p = some (.ins PR dx z6) := upd_same
  replace vlp := lst_upd (u := .ins PR dx z6) vlp plp
  replace vln := lst_upd (u := .ins PR dx z6) vln pln
  replace vlb := lst_upd (u := .ins PR dx z6) vlb plb
  replace vli2 := lst_upd (u := .ins PR dx z6) vli2 pli2
  replace vlv := lst_upd (u := .ins PR dx z6) vlv plv
  replace vlc := lst_upd (u := .ins PR dx z6) vlc plc
  generalize upd B p (.ins PR dx z6) = A6 at x6 q6 vlp vln vlb vli2 vlv vlc
  clear gB hlc
  clear B
  -- _places
  refine ⟨_, rfl, q, ps, rfl, psA x6, p5, fun B lq ys gB hlq vlq hys => ⟨_, rfl, p, PR, dx, z6, rfl, gB _ _ q6, GK.cl, GK.n7, by omega, ?_⟩⟩
  have plq : lq ≠ p := (ne_of_none q6 hlq).symm
  have hlq0 : H lq = none := fr x6 hlq plq
  replace vlp := gB _ _ vlp
  replace vln := gB _ _ vln
  replace vlb := gB _ _ vlb
  replace vli2 := gB _ _ vli2
  replace vlv := gB _ _ vlv
  replace vlc := gB _ _ vlc
  generalize ez7 : putF "_places" (.ref lq) z6 = z7
  have c7 : z7.length ≤ 7 := by
    rw [← ez7]
    exact few c6
  have x7 : SameX p H (upd B p (.ins PR dx z7)) := sx_upd (x6.trans (Same.x gB))
  have q7 : (upd B p (.ins PR dx z7)) p = some (.ins PR dx z7) := upd_same
  replace vlp := lst_upd (u := .ins PR dx z7) vlp plp
  replace vln := lst_upd (u := .ins PR dx z7) vln pln
  replace vlb := lst_upd (u := .ins PR dx z7) vlb plb
  replace vli2 := lst_upd (u := .ins PR dx z7) vli2 pli2
  replace vlv := lst_upd (u := .ins PR dx z7) vlv plv
  replace vlc := lst_upd (u := .ins PR dx z7) vlc plc
  replace vlq := lst_upd (u := .ins PR dx z7) vlq plq
  have hys2 : Each PlV (upd B p (.ins PR dx z7)) ys (placesE ps) := hys.imp fun v x h => let ⟨t, e, g⟩ := h; ⟨t, e, by rw [upd_ne (ne_of g (gB _ _ q6) (by intro z; cases z))]; exact g⟩
  generalize upd B p (.ins PR dx z7) = A7 at x7 q7 vlp vln vlb vli2 vlv vlc vlq hys2
  clear gB hlq
  refine k A7 x7 fun Ds hDs G sG => ?_
  have nD : ∀ b, H b = none → b ∉ Ds := fun b hb m => by
    obtain ⟨xs, e⟩ := hDs b m
    rw [hb] at e
    cases e
  have pD : p ∉ Ds := fun m => by
    obtain ⟨xs, e⟩ := hDs p m
    rw [hp] at e
    cases e
  have LD : Lists Ds A7 := fun D m => by
    obtain ⟨xs, e⟩ := hDs D m
    exact ⟨xs, x7 _ _ e (fun z => pD (by rw [← z]; exact m))⟩
  have ez : z7 = gfs lp ln lb li2 lv lc lq := by
    rw [← ez7, ← ez6, ← ez5, ← ez4, ← ez3, ← ez2, ← ez1, ← ez0]
    rfl
  rw [ez] at q7
  exact ⟨dx, lp, ln, lb, li2, lv, lc, lq, vs, cs, ys, sG _ _ q7 pD, sG _ _ vlp (nD _ hlp0), sG _ _ vln (nD _ hln0), sG _ _ vlb (nD _ hlb0), sG _ _ vli2 (nD _ hli20), sG _ _ vlv (nD _ hlv0), hvs, sG _ _ vlc (nD _ hlc0), hcs, sG _ _ vlq (nD _ hlq0), hys2.imp fun v x h => h.off sG LD⟩
end
end TS
namespace TS
open PySem L2
abbrev sMade : Stmt := top 115
theorem placesD_once (nm : Str) : ∀ (l : List DeedD) (j : Nat), (placesD nm j l).length = onceD l
  | [], j => rfl
  | e :: r, j => by
    have ih := placesD_once nm r (j + 1)
    show (if e.l = true then placesD nm (j + 1) r else (nm, j) :: placesD nm (j + 1) r).length = ((e :: r).filter fun d => !d.l).length
    have ih2 : (placesD nm (j + 1) r).length = (r.filter fun d => !d.l).length := ih
    cases h : e.l <;> simp [h, ih2]
theorem placesE_once : ∀ ps : List ProcD, (placesE ps).length = onceE ps
  | [] => rfl
  | p :: r => by
    have ih := placesE_once r
    have h1 := placesD_once p.name p.ds 0
    show ((p :: r).map _).flatten.length = ((p :: r).map fun e => onceD e.ds).sum
    rw [List.map_cons, List.flatten_cons, List.length_append, List.map_cons, List.sum_cons, h1]
    have : ((r.map fun p => placesD p.name 0 p.ds).flatten).length = (r.map fun e => onceD e.ds).sum := ih
    rw [this]
theorem Gen.prog {mp md deep k : Nat} {ws : List Str} {ns : List Int} {es : List ProcD} (g : Gen mp md deep ws k ns es) (h5 : mp ≤ 5) (ho : onceE es ≤ 8) : ProgOk es (ws.take k) := by
  have hw := g.w34
  have hk := g.k12
  have n2 : ns.length ≤ 2 := by
    have h : ∀ l ∈ digs5, l.length ≤ 2 := by decide
    exact h ns g.dg
  have lt : (ws.take k).length = k := by rw [List.length_take]; omega
  have nd : ws.Nodup := g.wnd
  have tn : ∀ n : Nat, (ups.take n).Nodup ∧ (downs.take n).Nodup := fun n => by
    have h1 : ups.Nodup := by decide +kernel
    have h2 : downs.Nodup := by decide +kernel
    exact ⟨h1.sublist (List.take_sublist _ _), h2.sublist (List.take_sublist _ _)⟩
  refine ⟨g.e1, by have := g.e2; omega, ?_, fun x hx => (g.wok x (List.mem_of_mem_take hx)).1, nd.sublist (List.take_sublist _ _), by omega, by omega, fun x hx p hp ⟨d, hd, e⟩ => ?_, fun l ln hl => ?_, fun l ln hl => ?_, by rw [placesE_once]; exact ho⟩
  · rcases g.names with h | h
    · rw [h]
      exact (tn _).1
    · rw [h]
      exact (tn _).2
  · have hd2 := ((g.ds p hp).2.2 d hd).x
    rw [← e] at hd2
    have hn : (ws.take k ++ ws.drop k).Nodup := by rw [List.take_append_drop]; exact nd
    exact (List.nodup_append.mp hn).2.2 x hx x hd2 rfl
  · have := nodup_len l ws ln fun x hx => by
      rcases hl x hx with ⟨p, hp, h | ⟨d, hd, h⟩ | ⟨d, hd, h⟩⟩ | h
      · exact (g.waits p hp).2.2.2 x h
      · exact ((g.ds p hp).2.2 d hd).words x h
      · rw [h]
        exact List.mem_of_mem_drop ((g.ds p hp).2.2 d hd).x
      · exact List.mem_of_mem_take h
    omega
  · have := nodup_len l ns ln fun x hx => by
      obtain ⟨p, hp, d, hd, h⟩ := hl x hx
      exact ((g.ds p hp).2.2 d hd).nums x h
    omega
/-- a Program of these processes and inputs -/
def ProgAt (PR PC CD C : Addr) (H : Hp) (a : Addr) (ps : List ProcD) (ins : List Str) : Prop := ∃ as : List Addr, ProgF PR H a as ps ins ∧ as.length = ps.length ∧ ∀ (i : Nat) b d, as[i]? = some b → ps[i]? = some d → ProcAt PC CD C H b d
section
variable {P : Program} {w : World} {K : PySem.W.Frag} {mg : Str → Option Value} {base : Heap}
/-- the class Program, made by its __init__ -/
def HasProg (P : Program) (w : World) (K : PySem.W.Frag) (mg : Str → Option Value) (base : Heap) (PR PC CD C : Addr) : Prop :=
  ∃ (f : Addr) (fd : FuncData), Mk K PR f ∧ Binds K fd ["self", "processes", "inputs"] [] ∧ FnOk P w K mg base CX0 6 f fd ["self", "processes", "inputs"] (spGInit PR PC CD C)
theorem prog_at {PR PC CD C : Addr} {H : Hp} {q li : Addr} {as : List Addr} {ps : List ProcD} {ins : List Str} {Z : VK} {E : XK} (ok : ProgOk ps ins) (hq : H q = some (.lst (as.map V.ref))) (la : as.length = ps.length) (hA : ∀ (i : Nat) a d, as[i]? = some a → ps[i]? = some d → ProcAt PC CD C H a d) (hli : H li = some (.lst (ins.map V.str))) {a dx : Addr} (na : H a = none) (nd : H dx = none) (ne : dx ≠ a)
    (k : ∀ H', Same H H' → (∀ Ds, Lists Ds H → ∀ G, SameOff Ds H' G → ProgF PR G a as ps ins) → Z .non H') : spGInit PR PC CD C [.ref a, .ref q, .ref li] (upd (upd H dx (.own a)) a (.ins PR dx [])) Z E := by
  have s0 : Same H (upd (upd H dx (.own a)) a (.ins PR dx [])) := fun b o e => by
    rw [upd_ne (ne_of_none e na), upd_ne (ne_of_none e nd)]
    exact e
  exact ⟨a, dx, q, li, as, ps, ins, rfl, upd_same, s0 _ _ hq, la, fun i b d x y => (hA i b d x y).same s0, s0 _ _ hli, ok, fun H' sx ht => k H' (fun b o e => sx b o (s0 b o e) (ne_of_none e na)) fun Ds hDs => ht Ds fun D m => let ⟨xs, e⟩ := hDs D m; ⟨xs, s0 _ _ e⟩⟩
abbrev nmMade : List Str := ["plain", "entry"]
theorem scMade : FnScope nmMade ["plain"] (defScope sMade) := ⟨rfl, rfl, rfl, by decide +kernel, rfl, by decide +kernel, by decide +kernel⟩
def spMade (PR PC CD C : Addr) : Sp := fun vs H Q _ => ∃ (v : V) (es : List ProcD) (ins : List Str) (Ds : List Addr), vs = [v] ∧ PlainV Ds H v es ins ∧ (∀ e ∈ es, e.Ok) ∧ ProgOk es ins ∧ ∀ H' a, Same H H' → H a = none → (∀ Ds, Lists Ds H → ∀ G, SameOff Ds H' G → ProgAt PR PC CD C G a es ins) → Q (.ref a) H'
theorem ok_made {PR PC CD C f : Addr} {fd : FuncData} (F : Fun K "_law_made" "_law_made" sMade f fd) (GK : ProgK K mg PR) (D1 : Has P w K mg base "_law_made_process" 21 ["entry"] (spMadeP PC CD C)) (D2 : HasProg P w K mg base PR PC CD C) : FnOk P w K mg base CX0 22 f fd ["plain"] (spMade PR PC CD C) := by
  obtain ⟨f1, fd1, m1, k1, b1, G1⟩ := D1
  obtain ⟨f2, fd2, M2, b2, G2⟩ := D2
  refine F.ok scMade (fun vs H Q E h => ?_) (fun cdv A outer s H vs Q E hr h => ?_)
  · obtain ⟨v, es, ins, Ds, rfl, _⟩ := h
    rfl
  obtain ⟨v, es, ins, Ds, rfl, hv, eok, ok, q⟩ := h
  have hu := hu_of hr
  have r7 : Room 7 _ := hr.mono (by decide)
  refine ⟨_, pss_one (ps_ret (pe_make M2 G2 r7 rfl GK.mgC b2 .nil pass0 (pa_cons
    (pe_lc (own := [("entry", 1)]) (g := gName 1) (tt := tYes) (by rfl) scMade.nd (pi_list (pe_dget hu (pv 0) pe_str (fun _ _ => rfl))) (blkOk_by (own := [("entry", 1)]) (N := nmMade) (sc := defScope sMade) (by decide +kernel)) (fun _ _ _ _ _ => pg_name (i := 1) scMade.nd rfl (Or.inl rfl)) (fun _ _ _ _ _ => pts_nil)
      (fun _ _ _ _ _ => pe_call G1 hr rfl m1 k1 b1 .nil pass0 (pa_cons (pv 1) pa_nil))) (pa_cons (pe_dget hu (pv 0) pe_str (fun _ _ => rfl)) pa_nil)))), ?_⟩
  obtain ⟨q0, lp, li, ys, rfl, hq, hlp, hE, hli, _, _⟩ := hv
  have lE := hE.1
  have p5 := ok.p5
  refine ⟨_, rfl, q0, _, rfl, DGet.k (k := .inr "processes") hq, lp, rfl, ⟨_, SqL.of hlp⟩, fun D hD => lc_eachL (K := K) (fun G v (e : ProcD) => ∃ b, v = .ref b ∧ H b = none ∧ ∀ Ds, Lists Ds H → ∀ G', SameOff Ds G G' → ProcAt PC CD C G' b e) (ts := es) hlp lE.symm (by omega) hD (fun _ => rfl) (fun i v e H1 G hv he s1 hL hG => ?_) (fun H1 zs s1 d1 e1 => ?_)⟩
  · refine ⟨_, rfl, v, e, _, rfl, (hE.2 i v e hv he).same s1, eok e (List.mem_of_getElem? he), fun H2 b s2 nb hT => hG _ H2 s2 fun H3 s3 => ⟨b, rfl, s1.free nb, fun Ds hDs G' sG => ?_⟩⟩
    refine hT (D :: Ds) (lists_cons hL fun c m => let ⟨xs, e⟩ := hDs c m; ⟨xs, s1 _ _ e⟩) G' fun c o e n => ?_
    simp only [List.mem_cons, not_or] at n
    exact sG c o (s3 c o e (by simpa using n.1)) n.2
  · obtain ⟨as, eas, _⟩ := refs_of (φ := fun _ => True) zs fun y hy => by
      obtain ⟨j, hj, e⟩ := List.getElem_of_mem hy
      have ht : es[j]? = some (es[j]'(by rw [← e1.1]; exact hj)) := List.getElem?_eq_getElem _
      obtain ⟨a, ea, _⟩ := e1.2 j y _ (by rw [← e]; exact List.getElem?_eq_getElem hj) ht
      exact ⟨a, ea, trivial⟩
    subst eas
    have la : as.length = es.length := by
      have := e1.1
      rwa [List.length_map] at this
    have hA : ∀ (i : Nat) b e, as[i]? = some b → es[i]? = some e → H b = none ∧ ∀ Ds, Lists Ds H → ∀ G', SameOff Ds H1 G' → ProcAt PC CD C G' b e := fun i b e hb he => by
      obtain ⟨b', eb, n, h⟩ := e1.2 i (.ref b) e (by rw [List.getElem?_map, hb]; rfl) he
      cases eb
      exact ⟨n, h⟩
    refine ⟨_, rfl, q0, _, rfl, DGet.k (k := .inr "inputs") (s1 _ _ hq), ?_⟩
    intro a dx na nd ne
    refine prog_at ok d1 la (fun i b e x y => (hA i b e x y).2 [] (fun D m => by cases m) H1 (SameOff.refl _ _)) (s1 _ _ hli) na nd ne fun H2 s2 hT => ⟨rfl, q H2 a (s1.trans s2) (s1.free na) fun Ds hDs G sG => ⟨as, hT Ds (fun D m => let ⟨xs, e⟩ := hDs D m; ⟨xs, s1 _ _ e⟩) G sG, la, fun i b e x y => ?_⟩⟩
    exact (hA i b e x y).2 Ds hDs G ((Same.off s2).trans sG)
end
end TS
namespace TS
open PySem L2
abbrev sLNames : Stmt := top 113
section
variable {P : Program} {w : World} {K : PySem.W.Frag} {mg : Str → Option Value} {base : Heap}
/-! _law_names -/
abbrev nmLNames : List Str := ["plain", "name", "waits", "deeds"]
theorem scLNames : FnScope nmLNames ["plain"] (defScope sLNames) := ⟨rfl, rfl, rfl, by decide +kernel, rfl, by decide +kernel, by decide +kernel⟩
def spLNames : Sp := fun vs H Q _ => ∃ (v : V) (es : List ProcD) (ins : List Str) (Ds : List Addr), vs = [v] ∧ PlainV Ds H v es ins ∧ es.length ≤ 900 ∧ ∀ H' r, Same H H' → H r = none → H' r = some (.lst ((es.map (·.name)).map V.str)) → Q (.ref r) H'
theorem ok_lnames {f : Addr} {fd : FuncData} (F : Fun K "_law_names" "_law_names" sLNames f fd) : FnOk P w K mg base CX0 1 f fd ["plain"] spLNames := by
  refine F.ok scLNames (fun vs H Q E h => ?_) (fun cdv A outer s H vs Q E hr h => ?_)
  · obtain ⟨v, es, ins, Ds, rfl, _⟩ := h
    rfl
  obtain ⟨v, es, ins, Ds, rfl, hv, l9, q⟩ := h
  have hu := hu_of hr
  refine ⟨_, pss_one (ps_ret (pe_lc (own := [("name", 1), ("waits", 2), ("deeds", 3)]) (g := gTup K 3 (gCons (gName 1) (gCons (gName 2) (gCons (gName 3) gNil)))) (tt := tYes) (te := tVar 1) (by rfl) scLNames.nd (pi_list (pe_dget hu (pv 0) pe_str (fun _ _ => rfl))) (blkOk_by (own := [("name", 1), ("waits", 2), ("deeds", 3)]) (N := nmLNames) (sc := defScope sLNames) (by decide +kernel))
    (fun _ _ _ _ _ => pg_tup (by rfl) (pgs_cons (pg_name (i := 1) scLNames.nd rfl (Or.inl rfl)) (pgs_cons (pg_name (i := 2) scLNames.nd rfl (Or.inl rfl)) (pgs_cons (pg_name (i := 3) scLNames.nd rfl (Or.inl rfl)) pgs_nil)))) (fun _ _ _ _ _ => pts_nil) (fun _ _ _ _ _ => pv 1))), ?_⟩
  obtain ⟨q0, lp, li, ys, rfl, hq, hlp, hE, hli, _, _⟩ := hv
  have lE := hE.1
  refine ⟨_, rfl, q0, _, rfl, DGet.k (k := .inr "processes") hq, lp, rfl, ⟨_, SqL.of hlp⟩, fun D hD => lc_it (walk_list (K := K) (a := lp) (xs := ys)) (fun i G => Same H G ∧ G D = some (.lst (((es.take i).map (·.name)).map V.str))) ⟨same_upd hD _, upd_same⟩ (fun i G _ z => SqL.of (z.1 _ _ hlp)) (fun i x G G' hi z hy => ?_) (fun G z => ?_)⟩
  · obtain ⟨sG, dG⟩ := z
    obtain ⟨rfl, hxi⟩ := hy
    have hei : es[i]? = some (es[i]'(by omega)) := List.getElem?_eq_getElem _
    obtain ⟨t, lw, ld, zs, rfl, ht, _⟩ := hE.2 i x _ hxi hei
    generalize es[i]'(by omega) = e at hei ht
    refine ⟨_, _, rfl, SqT.of (sG _ _ ht), rfl, _, _, rfl, _, _, rfl, _, _, rfl, rfl, rfl, ?_⟩
    unfold tYes
    dsimp only
    rw [if_pos rfl]
    refine ⟨_, rfl, _, dG, ?_, fun b o e => ?_, ?_⟩
    · rw [List.length_map, List.length_map, List.length_take]
      exact small1000 (by omega)
    · rw [upd_ne (ne_of_none e hD)]
      exact sG b o e
    · rw [upd_same, take_snoc hei, List.map_append, List.map_append]
      rfl
  · obtain ⟨sG, dG⟩ := z
    rw [lE, List.take_length] at dG
    exact q G D sG hD dG
end
end TS
/-! == of lists of own objects, with either answer; nothing changes -/
namespace TS
open PySem PySem.SeqAt
open AutoSeq1 (wpAny_loadPart')
open MeetsSeq MeetsSeq2 MeetsSeq3 SeqRoads2
section
variable {prog : Program} {w : World} {A : Around} {R : Result → Shared → Prop}
/-- at each turn the two lists are read anew: N items each, the i-th two compare as e i says -/
def ListB (prog : Program) (w : World) (A : Around) (E : Value → Shared → Prop) (l b : Addr) (N : Nat) (e : Nat → Bool) (I : Shared → Prop) : Prop :=
  ∀ i s, I s → ∃ (items items2 : Array Value) (n n2 : Nat), s.heap.get? l = some { cls := .type "list", data := .seq items n } ∧ s.heap.get? b = some { cls := .type "list", data := .seq items2 n2 } ∧ items.size = N ∧ items2.size = N ∧
    ∀ (h1 : i < items.size) (h2 : i < items2.size), wpAny (model prog w) A.in1 (eqBool items[i] items2[i]) (fun r s' => r = e i ∧ I s') E s
theorem eq_loopB (l b : Addr) (N : Nat) (e : Nat → Bool) (I : Shared → Prop) (hl : ListB prog w A (fun e s' => R (.error e) s') l b N e I)
    (fin : ∀ s, I s → R (.ok (.ret (.bool ((List.range N).all e)))) s) (k : Nat) :
    ∀ i : Nat, N - i = k → i ≤ N → (∀ j, j < i → e j = true) → ∀ s, I s →
      wpAny (model prog w) A.in1 (Builtin.«list.__eq__.loop» ⟨[.ref l, .ref b, rawInt i, rawInt 2], []⟩) (GQ.FinOf prog w A R) (fun e s' => R (.error e) s') s := by
  induction k with
  | zero =>
    intro i hk hi hp s h
    obtain ⟨items, items2, n, n2, hl1, hb1, hs1, hs2, _⟩ := hl i _ h
    have hi' : i = N := by omega
    have hall : (List.range N).all e = true := by
      rw [List.all_eq_true]
      intro j hj
      exact hp j (by have := List.mem_range.mp hj; omega)
    have hR := fin s h
    rw [hall] at hR
    obtain ⟨hp, g, d, tk, os⟩ := s
    wp_walk using wpAny_loadPart' hl1, wpAny_loadPart' hb1
    have hi1 : items[((i : Nat) : Int).toNat]? = none := by simp; omega
    have hi2 : items2[((i : Nat) : Int).toNat]? = none := by simp; omega
    rw [hi1, hi2]
    wp_walk using wpAny_loadPart' hl1, wpAny_loadPart' hb1
    show R (.ok (.ret (.bool (items.size == items2.size)))) _
    rw [hs1, hs2]
    simpa using hR
  | succ k ih =>
    intro i hk hi hp s h
    obtain ⟨items, items2, n, n2, hl1, hb1, hs1, hs2, turn⟩ := hl i _ h
    have hlt : i < items.size := by omega
    have hlt2 : i < items2.size := by omega
    have ht := turn hlt hlt2
    obtain ⟨hp', g, d, tk, os⟩ := s
    wp_walk using wpAny_loadPart' hl1, wpAny_loadPart' hb1
    have hi1 : items[((i : Nat) : Int).toNat]? = some items[i] := by simp [hlt]
    have hi2 : items2[((i : Nat) : Int).toNat]? = some items2[i] := by simp [hlt2]
    have hc : ((i : Int) + 1) = ((i + 1 : Nat) : Int) := by omega
    rw [hi1, hi2]
    refine wpAny_bind (wpAny_mono ht (fun r s2 h2 => ?_) fun _ _ x => x)
    obtain ⟨hr, h2⟩ := h2
    subst hr
    cases he : e i with
    | true =>
      have hrec := ih (i + 1) (by omega) (by omega) (fun j hj => by
        rcases Nat.lt_or_ge j i with q | q
        · exact hp j q
        · have : j = i := by omega
          rw [this]; exact he) s2 h2
      obtain ⟨hp2, g2, d2, tk2, os2⟩ := s2
      wp_walk
      rw [hc]
      exact ⟨plainId_quiet plain_eq_loop _, codeAny_builtin entry_eq_loop (by
        rw [Around.under_plainId plain_eq_loop _]
        exact hrec)⟩
    | false =>
      have hall : (List.range N).all e = false := by
        rw [List.all_eq_false]
        exact ⟨i, List.mem_range.mpr (by omega), by simp [he]⟩
      have hR := fin s2 h2
      rw [hall] at hR
      obtain ⟨items3, items4, n3, n4, hl3, hb3, hs3, hs4, _⟩ := hl i _ h2
      obtain ⟨hp2, g2, d2, tk2, os2⟩ := s2
      wp_walk using wpAny_loadPart' hl3, wpAny_loadPart' hb3
      have hi3 : items3[((i : Nat) : Int).toNat]? = some (items3[i]'(by omega)) := by simp
      have hi4 : items4[((i : Nat) : Int).toNat]? = some (items4[i]'(by omega)) := by simp
      rw [hi3, hi4]
      wp_walk
      simpa using hR
theorem list_eqB (l b : Addr) (N : Nat) (e : Nat → Bool) (I : Shared → Prop) (hl : ListB prog w A (fun e s' => R (.error e) s') l b N e I)
    (fin : ∀ s, I s → R (.ok (.ret (.bool ((List.range N).all e)))) s) {s : Shared} (h : I s) :
    wpAny (model prog w) A.in1 (Builtin.«list.__eq__» ⟨[.ref l, .ref b], []⟩) (GQ.FinOf prog w A R) (fun e s' => R (.error e) s') s := by
  obtain ⟨items, items2, n, n2, hl1, hb1, hs1, hs2, _⟩ := hl 0 _ h
  have hrec := eq_loopB (A := A) (R := R) l b N e I hl fin _ 0 rfl (Nat.zero_le _) (fun j hj => absurd hj (Nat.not_lt_zero _)) s h
  obtain ⟨hp, g, d, tk, os⟩ := s
  have f3 := AutoSeq1.sub_list_list
  have hne : ¬ (items.size != items2.size) = true := by simp [hs1, hs2]
  wp_walk using wpAny_loadPart' hl1, wpAny_loadPart' hb1
  exact ⟨plainId_quiet plain_eq_loop _, codeAny_builtin entry_eq_loop (by
    rw [Around.under_plainId plain_eq_loop _]
    exact hrec)⟩
end
section
variable {prog : Program} {w : World} {A : Around} {E : Value → Shared → Prop} {s : Shared}
theorem rc_listB {l b : Addr} {N : Nat} {e : Nat → Bool} {Q : Value → Shared → Prop} (hu : A.units < cLine) (I : Shared → Prop) (hl : ListB prog w A E l b N e I)
    (fin : ∀ s, I s → Q (.bool ((List.range N).all e)) s) (h : I s) : wpAny (model prog w) A (richCompare .Eq (.ref l) (.ref b)) Q E s := by
  obtain ⟨items, items2, n, n2, hl1, hb1, _, _, _⟩ := hl 0 _ h
  refine wpAny_richCompare_same_room (op := .Eq) ⟨_, hl1, rfl⟩ ⟨_, hb1, rfl⟩ F.slot_list_eq (GQ.call_here F.slot_list_eq ⟨_, hl1, rfl⟩ F.entry_list_eq (F.args_list_eq_2 _ _) ?_) hu
  exact list_eqB (R := wants (fun v s' => v ≠ .notImplemented ∧ Q v s') E) l b N e I hl (fun s' q => ⟨(fun x => nomatch x), fin s' q⟩) h
end
end TS
namespace TS
open PySem PySem.Spec PyProof.Rows L2
/-- how two values are seen to compare, by the abstract heap -/
abbrev EqvB := V → V → Bool → Hp → Prop
def EqB (X : Cx) (n : Nat) (D : EqvB) : Prop :=
  ∀ (A : Around) (pins : List (Addr × Obj)) (s : Shared) (σ : L2.St) (H : Hp) (x y : V) (u v : Value) (b : Bool), Sub X n A → Inv X pins σ H s → L2.RelV x u → L2.RelV y v → D x y b H →
    wpAny (model X.prog X.w) A (eqBool u v) (fun r s' => r = b ∧ Inv X pins σ H s') X.xe s
def RcB (X : Cx) (n : Nat) (D : EqvB) : Prop :=
  ∀ (A : Around) (pins : List (Addr × Obj)) (s : Shared) (σ : L2.St) (H : Hp) (x y : V) (u v : Value) (b : Bool), Sub X n A → Inv X pins σ H s → L2.RelV x u → L2.RelV y v → D x y b H →
    wpAny (model X.prog X.w) A (richCompare .Eq u v) (fun r s' => r = .bool b ∧ Inv X pins σ H s') X.xe s
section
variable {X : Cx} {n m : Nat} {D : EqvB}
/-- two lists, item by item; of unlike sizes they differ -/
def DListB (D : EqvB) : EqvB := fun x y b H => ∃ l r xs ys, x = .ref l ∧ y = .ref r ∧ H l = some (.lst xs) ∧ H r = some (.lst ys) ∧
  ((xs.length ≠ ys.length ∧ b = false) ∨ (xs.length = ys.length ∧ ∃ e : Nat → Bool, (∀ (i : Nat) x y, xs[i]? = some x → ys[i]? = some y → D x y (e i) H) ∧ b = (List.range xs.length).all e))
theorem turnB (h : EqB X n D) {A : Around} (sb : Sub X (n + 1) A) {pins : List (Addr × Obj)} {σ : L2.St} {H : Hp} {xs ys : List V} {its its2 : List Value} {e : Nat → Bool} (p : ∀ (i : Nat) x y, xs[i]? = some x → ys[i]? = some y → D x y (e i) H) (r : Vals xs its) (r2 : Vals ys its2)
    (i : Nat) (h1 : i < its.toArray.size) (h2 : i < its2.toArray.size) (s' : Shared) (I1 : Inv X pins σ H s') :
    wpAny (model X.prog X.w) A.in1 (eqBool its.toArray[i] its2.toArray[i]) (fun r s2 => r = e i ∧ Inv X pins σ H s2) X.xe s' := by
  have g1 : its[i]? = some its.toArray[i] := by
    have h1' : i < its.length := by simpa using h1
    rw [List.getElem?_eq_getElem h1'] <;> simp
  have g2 : its2[i]? = some its2.toArray[i] := by
    have h2' : i < its2.length := by simpa using h2
    rw [List.getElem?_eq_getElem h2'] <;> simp
  have k1 : i < xs.length := by rw [r.length]; simpa using h1
  have k2 : i < ys.length := by rw [r2.length]; simpa using h2
  obtain ⟨u, hu, ru⟩ := r.get (List.getElem?_eq_getElem k1)
  obtain ⟨v, hv, rv⟩ := r2.get (List.getElem?_eq_getElem k2)
  rw [g1] at hu
  rw [g2] at hv
  rw [Option.some.inj hu, Option.some.inj hv]
  exact h A.in1 pins s' σ H _ _ u v _ sb.in1 I1 ru rv (p i _ _ (List.getElem?_eq_getElem k1) (List.getElem?_eq_getElem k2))
theorem rcB_list (h : EqB X n D) : RcB X (n + 1) (DListB D) := by
  intro A pins s σ H x y u v b sb I rx ry d
  obtain ⟨l, r, xs, ys, rfl, rfl, ha, hb, d⟩ := d
  cases rx
  cases ry
  rcases d with ⟨ne, rfl⟩ | ⟨el, e, p, rfl⟩
  · obtain ⟨_, its, k, r1, e1⟩ := I.hok l _ ha
    obtain ⟨_, its2, k2, r2, e2⟩ := I.hok r _ hb
    have hne : (its.toArray.size != its2.toArray.size) = true := by
      rw [List.size_toArray, List.size_toArray, ← r1.length, ← r2.length]
      simpa using ne
    have M := SeqAt.list_eq_lengthsAt l r its.toArray its2.toArray k k2 none none #[] #[] hne
    have fin : wants (fun v s' => v ≠ Value.notImplemented ∧ v = .bool false ∧ Inv X pins σ H s') X.xe (.ok (.ret (.bool false))) s := ⟨Value.noConfusion, rfl, I⟩
    exact @richCompare_meets_room X.prog X.w A X.xe s "list" "list.__eq__" .Eq Builtin.«list.__eq__» (.ref l) (.ref r) _ (fun v s' => v = .bool false ∧ Inv X pins σ H s') ⟨_, e1, rfl⟩ ⟨_, e2, rfl⟩ F.slot_list_eq F.entry_list_eq (F.args_list_eq_2 _ _) M ⟨e1, e2, fin⟩ sb.room.units0
  · refine rc_listB (N := xs.length) (e := e) sb.room.units0 (fun s' => Inv X pins σ H s') (fun i s' q => ?_) (fun s' q => ⟨rfl, q⟩) I
    obtain ⟨_, its, k, r1, e1⟩ := q.hok l _ ha
    obtain ⟨_, its2, k2, r2, e2⟩ := q.hok r _ hb
    refine ⟨its.toArray, its2.toArray, k, k2, e1, e2, by rw [List.size_toArray, ← r1.length], by rw [List.size_toArray, ← r2.length, ← el], fun h1 h2 => ?_⟩
    exact turnB h sb p r1 r2 i h1 h2 s' q
/-- instances of the class at C by the text's own ==: R says how the two compare, and a thing is equal to itself -/
def DInsB (C : Addr) (R : Addr → Addr → Bool → Hp → Prop) : EqvB := fun x y k H => ∃ a b dx dy fs gs, x = .ref a ∧ y = .ref b ∧ H a = some (.ins C dx fs) ∧ H b = some (.ins C dy gs) ∧ R a b k H ∧ (a = b → k = true)
def spEqB (R : Addr → Addr → Bool → Hp → Prop) : Sp := fun vs H Q _ => ∃ a b k, vs = [.ref a, .ref b] ∧ R a b k H ∧ Q (.bl k) H
theorem rcB_ins {CX : CXT} {C f : Addr} {fd : FuncData} {ps : List Str} {R : Addr → Addr → Bool → Hp → Prop} {E : XK} (F : FnOk X.prog X.w X.K X.mg X.base CX n f fd ps (spEqB R))
    (hs : PySem.W.findIn X.K (.ref C) "__eq__" = some (some (.ref f))) (hf : PySem.W.isFn X.K (.ref f) = true) (hb : Binds X.K fd ps []) (hx : Passes CX X E) : RcB X n (DInsB C R) := by
  intro A pins s σ H x y u v k sb I rx ry d
  obtain ⟨a, b, dx, dy, fs, gs, rfl, rfl, ha, hb', hr, _⟩ := d
  cases rx
  cases ry
  obtain ⟨mA, J, _⟩ := ins_get I.hok ha
  obtain ⟨mB, J', _⟩ := ins_get I.hok hb'
  obtain ⟨od, J, _⟩ := J.look
  obtain ⟨od', J', _⟩ := J'.look
  have tb : PySem.W.Looks (model X.prog X.w) s.heap (PySem.typeOf (.ref b)) (.ref C) := J'.type
  refine wpAny_mono (rc_one (op := .Eq) (Q := TruthBack fun k' s' => k' = k ∧ Inv X pins σ H s') sb.room.units0 I.kIn J tb (by unfold PySem.W.notFirst; simp) (try_eq I.kIn J hs hf ?_)) (fun r s' z => ?_) fun _ _ e => e
  · refine wpAny_mono (own_call (E := E) (Q := fun v H' => v = .bl k ∧ H' = H) I sb.fr sb.room F hb hx (.cons (show L2.RelV (.ref a) (Value.ref a) from rfl) (.cons (show L2.RelV (.ref b) (Value.ref b) from rfl) .nil)) ⟨a, b, k, rfl, hr, rfl, rfl⟩) (fun r s' z => ?_) fun _ _ e => e
    obtain ⟨v, H', I', rv, rfl, rfl⟩ := z
    cases rv
    exact ⟨k, rfl, rfl, I'⟩
  · obtain ⟨k', rfl, rfl, I'⟩ := z
    exact ⟨rfl, I'⟩
theorem RcB.eqB (h : RcB X n D) (hr : ∀ x y k H, D x y k H → ∃ a b, x = .ref a ∧ y = .ref b ∧ (a = b → k = true)) : EqB X n D := by
  intro A pins s σ H x y u v k sb I rx ry d
  obtain ⟨a, b, rfl, rfl, hab⟩ := hr _ _ _ _ d
  cases rx
  cases ry
  by_cases e : a = b
  · rw [hab e]
    subst e
    exact SeqAt.EqAt.same (A := A) (s := s) (.ref a) X.prog X.w X.xe _ ⟨rfl, I⟩
  · refine GQ.eqBool_refG e (wpAny_mono (h A pins s σ H (.ref a) (.ref b) _ _ k sb I rfl rfl d) (fun r s' q => ?_) fun _ _ x => x)
    obtain ⟨hr', q⟩ := q
    exact ⟨k, hr', rfl, q⟩
theorem eqB_ins {CX : CXT} {C f : Addr} {fd : FuncData} {ps : List Str} {R : Addr → Addr → Bool → Hp → Prop} {E : XK} (F : FnOk X.prog X.w X.K X.mg X.base CX n f fd ps (spEqB R))
    (hs : PySem.W.findIn X.K (.ref C) "__eq__" = some (some (.ref f))) (hf : PySem.W.isFn X.K (.ref f) = true) (hb : Binds X.K fd ps []) (hx : Passes CX X E) : EqB X n (DInsB C R) :=
  (rcB_ins F hs hf hb hx).eqB fun _ _ _ _ d => let ⟨a, b, _, _, _, _, hx, hy, _, _, _, e⟩ := d; ⟨a, b, hx, hy, e⟩
/-- x == y as an expression -/
def rEqB (D : EqvB) : R2 := fun x y H Q => ∃ k, D x y k H ∧ Q (.bl k) H
theorem op_eqB (h : RcB X n D) (hr : Room n X.A) : OpR X (compareOp .Eq) (rEqB D) := by
  intro pins s σ H x y v u Q I rx ry hq
  obtain ⟨k, d, q⟩ := hq
  show wpAny (model X.prog X.w) X.A (richCompare .Eq v u) (EP X pins σ Q) X.xe s
  refine wpAny_mono (h X.A pins s σ H x y v u k ⟨hr, rfl⟩ I rx ry d) (fun r s' z => ?_) fun _ _ x => x
  obtain ⟨hr', I'⟩ := z
  subst hr'
  exact ⟨.bl k, H, I', rfl, q⟩
end
end TS
namespace TS
open PySem L2
abbrev sDEq : Stmt := (inClass (top 52) 3)
abbrev sPEq : Stmt := (inClass (top 55) 1)
/-- what tells a Process from others -/
def ProcD.key (p : ProcD) : Str × List Str × List Str := (p.name, p.waits, p.ds.map DeedD.text)
theorem DeedAt.self {CD C a : Addr} {H : Hp} {d e : DeedD} (h : DAt CD C H a d) (g : DAt CD C H a e) : d.text = e.text := by
  obtain ⟨_, dx, p, h1, _⟩ := h
  obtain ⟨_, dx', p', g1, _⟩ := g
  rw [h1] at g1
  have e2 : dfs d.x p d.l (deedText d.x d.l d.t) = dfs e.x p' e.l (deedText e.x e.l e.t) := by
    injection g1 with g1
    injection g1
  have t1 := dfs_text d.x p d.l (deedText d.x d.l d.t)
  rw [e2, dfs_text] at t1
  injection t1 with t1
  injection t1 with t1
  exact t1.symm
theorem ProcAt.self {PC CD C a : Addr} {H : Hp} {p q : ProcD} (h : ProcAt PC CD C H a p) (g : ProcAt PC CD C H a q) : p.key = q.key := by
  obtain ⟨ok, dxa, lw, ld, lr, lt, lc, as, rs, ts, cs, h1, h2, h3, h4, h5, _⟩ := h
  obtain ⟨ok', dxa', lw', ld', lr', lt', lc', as', rs', ts', cs', g1, g2, g3, g4, g5, _⟩ := g
  rw [h1] at g1
  have e2 : pfs p.name lw ld lr lt lc = pfs q.name lw' ld' lr' lt' lc' := by
    injection g1 with g1
    injection g1
  have n1 := pfs_name p.name lw ld lr lt lc
  rw [e2, pfs_name] at n1
  have w1 := pfs_waits p.name lw ld lr lt lc
  rw [e2, pfs_waits] at w1
  have d1 := pfs_deeds p.name lw ld lr lt lc
  rw [e2, pfs_deeds] at d1
  injection n1 with n1
  injection n1 with n1
  injection w1 with w1
  injection w1 with w1
  injection d1 with d1
  injection d1 with d1
  subst w1 d1
  rw [h2] at g2
  rw [h3] at g3
  have ew : p.waits = q.waits := by
    injection g2 with g2
    injection g2 with g2
    exact List.map_inj_right (f := V.str) (fun _ _ e => V.str.inj e) |>.mp g2
  have ea : as = as' := by
    injection g3 with g3
    injection g3 with g3
    exact List.map_inj_right (f := V.ref) (fun _ _ e => V.ref.inj e) |>.mp g3
  subst ea
  have ed : p.ds.map DeedD.text = q.ds.map DeedD.text := by
    refine List.ext_getElem? fun i => ?_
    rw [List.getElem?_map, List.getElem?_map]
    by_cases c : i < as.length
    · have a1 : as[i]? = some as[i] := List.getElem?_eq_getElem c
      have p1 : p.ds[i]? = some (p.ds[i]'(by omega)) := List.getElem?_eq_getElem _
      have q1 : q.ds[i]? = some (q.ds[i]'(by omega)) := List.getElem?_eq_getElem _
      rw [p1, q1]
      exact congrArg some (DeedAt.self (h5 i _ _ a1 p1) (g5 i _ _ a1 q1))
    · rw [List.getElem?_eq_none (by omega), List.getElem?_eq_none (by omega)]
  show (p.name, p.waits, _) = (q.name, q.waits, _)
  rw [ew, ed, n1]
/-- all of a list -/
theorem all_range {α : Type} [DecidableEq α] {xs ys : List α} (el : xs.length = ys.length) : (List.range xs.length).all (fun i => decide (xs[i]? = ys[i]?)) = decide (xs = ys) := by
  rw [Bool.eq_iff_iff, List.all_eq_true, decide_eq_true_iff]
  constructor
  · intro h
    refine List.ext_getElem? fun i => ?_
    by_cases c : i < xs.length
    · exact of_decide_eq_true (h i (List.mem_range.mpr c))
    · rw [List.getElem?_eq_none (by omega), List.getElem?_eq_none (by omega)]
  · rintro rfl i _
    exact decide_eq_true rfl
theorem inV_mem (x : Str) (ws : List Str) : inV (.str x) (ws.map V.str) = decide (x ∈ ws) := by
  by_cases h : x ∈ ws
  · rw [decide_eq_true h]
    show (ws.map V.str).any (fun y => eqV y (.str x)) = true
    rw [List.any_eq_true]
    exact ⟨.str x, List.mem_map.mpr ⟨x, h, rfl⟩, (beq_self_eq_true x : (x == x) = true)⟩
  · rw [decide_eq_false h]
    exact inV_no h
section
variable {P : Program} {w : World} {K : PySem.W.Frag} {mg : Str → Option Value} {base : Heap}
/-- an own __eq__ of the class at C -/
def HasEq (P : Program) (w : World) (K : PySem.W.Frag) (mg : Str → Option Value) (base : Heap) (C : Addr) (k : Nat) (sp : Sp) : Prop := ∃ f fd, PySem.W.findIn K (.ref C) "__eq__" = some (some (.ref f)) ∧ PySem.W.isFn K (.ref f) = true ∧ Binds K fd ["self", "other"] [] ∧ FnOk P w K mg base CX0 k f fd ["self", "other"] sp
def RDeed (CD C : Addr) (a b : Addr) (k : Bool) (H : Hp) : Prop := ∃ d e, DAt CD C H a d ∧ DAt CD C H b e ∧ k = decide (d.text = e.text)
theorem scDEq : FnScope ["self", "other"] ["self", "other"] (defScope sDEq) := ⟨rfl, rfl, rfl, by decide +kernel, rfl, by decide +kernel, by decide +kernel⟩
theorem dec_str (x y : Str) : decide (V.str x = V.str y) = decide (x = y) := by
  rw [Bool.eq_iff_iff, decide_eq_true_iff, decide_eq_true_iff]
  exact ⟨fun h => V.str.inj h, fun h => by rw [h]⟩
theorem ok_deq {C CD f : Addr} {fd : FuncData} (F : Fun K "__eq__" "Deed.__eq__" sDEq f fd) (T : BltT mg) (DK : DeedT K mg CD) : FnOk P w K mg base CX0 1 f fd ["self", "other"] (spEqB (RDeed CD C)) := by
  refine F.ok scDEq (fun vs H Q E h => ?_) (fun cdv A outer s H vs Q E hr h => ?_)
  · obtain ⟨a, b, k, rfl, _⟩ := h
    rfl
  obtain ⟨a, b, k, rfl, ⟨d, e, hd, he, rfl⟩, q⟩ := h
  refine ⟨_, pss_one (ps_ret (pe_and (pe_callB call_isi (by rfl) T.isi bIsi (pa_cons (pv 1) (pa_cons (pe_glob rfl DK.mgC (show RelV (.ref CD) (.ref CD) from rfl)) pa_nil)))
    (pe_one (pe_cmpR op_eq (pe_fld (pv 0) rfl) (pe_fld (pv 1) rfl) (nomark _))))), ?_⟩
  obtain ⟨_, dx, p, h1, _⟩ := hd
  obtain ⟨_, dx2, p2, h2, _⟩ := he
  refine ⟨_, rfl, _, _, _, _, _, rfl, .own CD, DK.ty h2, DK.kD, _, rfl, iteT ?_⟩
  refine ⟨_, rfl, a, CD, dx, _, _, rfl, h1, DK.cl, DK.n4, dfs_text _ _ _ _, _, rfl, b, CD, dx2, _, _, rfl, h2, DK.cl, DK.n4, dfs_text _ _ _ _, rfl, ?_⟩
  rw [dec_str]
  exact q
theorem eqB_deed {X : Cx} {C CD f : Addr} {fd : FuncData} {n : Nat} {E : XK} (G : FnOk X.prog X.w X.K X.mg X.base CX0 n f fd ["self", "other"] (spEqB (RDeed CD C)))
    (hs : PySem.W.findIn X.K (.ref CD) "__eq__" = some (some (.ref f))) (hf : PySem.W.isFn X.K (.ref f) = true) (hb : Binds X.K fd ["self", "other"] []) (hx : Passes CX0 X E) : EqB X n (DInsB CD (RDeed CD C)) := eqB_ins G hs hf hb hx
theorem deed_ins {CD C a b : Addr} {H : Hp} {d e : DeedD} (h : DAt CD C H a d) (g : DAt CD C H b e) : DInsB CD (RDeed CD C) (.ref a) (.ref b) (decide (d.text = e.text)) H := by
  obtain ⟨_, dx, p, h1, _⟩ := id h
  obtain ⟨_, dx2, p2, h2, _⟩ := id g
  exact ⟨a, b, dx, dx2, _, _, rfl, rfl, h1, h2, ⟨d, e, h, g, rfl⟩, fun z => by subst z; exact decide_eq_true (DeedAt.self h g)⟩
/-- two lists of Deeds -/
theorem deeds_B {CD C l r : Addr} {H : Hp} {as bs : List Addr} {ds es : List DeedD} (hl : H l = some (.lst (as.map V.ref))) (hr : H r = some (.lst (bs.map V.ref))) (la : as.length = ds.length) (lb : bs.length = es.length)
    (hA : ∀ (i : Nat) b d, as[i]? = some b → ds[i]? = some d → DAt CD C H b d) (hB : ∀ (i : Nat) b d, bs[i]? = some b → es[i]? = some d → DAt CD C H b d) :
    DListB (DInsB CD (RDeed CD C)) (.ref l) (.ref r) (decide (ds.map DeedD.text = es.map DeedD.text)) H := by
  refine ⟨l, r, _, _, rfl, rfl, hl, hr, ?_⟩
  by_cases c : as.length = bs.length
  · refine .inr ⟨by rw [List.length_map, List.length_map, c], fun i => decide ((ds.map DeedD.text)[i]? = (es.map DeedD.text)[i]?), fun i x y hx hy => ?_, ?_⟩
    · obtain ⟨a, ha, rfl⟩ := map_at hx
      obtain ⟨b, hb, rfl⟩ := map_at hy
      have i1 : i < ds.length := by have := (List.getElem?_eq_some_iff.mp ha).1; omega
      have i2 : i < es.length := by have := (List.getElem?_eq_some_iff.mp hb).1; omega
      have d1 : ds[i]? = some ds[i] := List.getElem?_eq_getElem _
      have e1 : es[i]? = some es[i] := List.getElem?_eq_getElem _
      have z := deed_ins (hA i a _ ha d1) (hB i b _ hb e1)
      have ee : decide ((ds.map DeedD.text)[i]? = (es.map DeedD.text)[i]?) = decide (ds[i].text = es[i].text) := by
        rw [List.getElem?_map, List.getElem?_map, d1, e1, Bool.eq_iff_iff, decide_eq_true_iff, decide_eq_true_iff]
        exact ⟨fun h => Option.some.inj h, fun h => congrArg some h⟩
      show DInsB CD (RDeed CD C) _ _ (decide ((ds.map DeedD.text)[i]? = (es.map DeedD.text)[i]?)) H
      rw [ee]
      exact z
    · have := all_range (xs := ds.map DeedD.text) (ys := es.map DeedD.text) (by rw [List.length_map, List.length_map]; omega)
      rw [← this, List.length_map, List.length_map, la]
  · refine .inl ⟨by rw [List.length_map, List.length_map]; exact c, decide_eq_false fun h => ?_⟩
    have := congrArg List.length h
    rw [List.length_map, List.length_map] at this
    omega
/-- lists of words -/
theorem words_all : ∀ xs ys : List Str, PyData.eqvAll (xs.map PyData.str) (ys.map PyData.str) = decide (xs = ys)
  | [], [] => by simp [PyData.eqvAll]
  | [], y :: t => by simp [PyData.eqvAll]
  | x :: r, [] => by simp [PyData.eqvAll]
  | x :: r, y :: t => by
    have h := words_all r t
    simp only [List.map_cons, PyData.eqvAll, PyData.eqv, h, List.cons.injEq]
    by_cases e : x = y <;> by_cases g : r = t <;> simp [e, g]
theorem words_eqv (xs ys : List Str) : PyData.eqv (strsD xs) (strsD ys) = decide (xs = ys) := by
  unfold strsD
  rw [PyData.eqv]
  exact words_all xs ys
/-- l == r of lists of words -/
theorem words_eqD {l r : Addr} {H : Hp} {xs ys : List Str} {Q : VK} (hl : H l = some (.lst (xs.map V.str))) (hr : H r = some (.lst (ys.map V.str))) (px : ∀ x ∈ xs, Plain x) (py : ∀ x ∈ ys, Plain x) (q : Q (.bl (decide (xs = ys))) H) : rEqD K (.ref l) (.ref r) H Q := by
  refine ⟨strsD xs, strsD ys, .lst (SqL.of hl) (dpStrs xs), .lst (SqL.of hr) (dpStrs ys), shaped_mk (strsD_lay px) (Nat.le_trans (strsD_dep xs) (by decide)), shaped_mk (strsD_lay py) (Nat.le_trans (strsD_dep ys) (by decide)), ?_⟩
  rw [words_eqv]
  exact q
/-! Process.__eq__ -/
def RProc (PC CD C : Addr) (a b : Addr) (k : Bool) (H : Hp) : Prop := ∃ d e, ProcAt PC CD C H a d ∧ ProcAt PC CD C H b e ∧ k = decide (d.key = e.key)
theorem scPEq : FnScope ["self", "other"] ["self", "other"] (defScope sPEq) := ⟨rfl, rfl, rfl, by decide +kernel, rfl, by decide +kernel, by decide +kernel⟩
theorem key_dec (p q : ProcD) : decide (p.key = q.key) = (decide (p.name = q.name) && (decide (p.waits = q.waits) && decide (p.ds.map DeedD.text = q.ds.map DeedD.text))) := by
  unfold ProcD.key
  by_cases h1 : p.name = q.name <;> by_cases h2 : p.waits = q.waits <;> by_cases h3 : p.ds.map DeedD.text = q.ds.map DeedD.text <;> simp [h1, h2, h3]
theorem ok_peq {PC C CD f : Addr} {fd : FuncData} (F : Fun K "__eq__" "Process.__eq__" sPEq f fd) (T : BltT mg) (PT : ProcT K mg PC) (HD : HasEq P w K mg base CD 1 (spEqB (RDeed CD C))) : FnOk P w K mg base CX0 3 f fd ["self", "other"] (spEqB (RProc PC CD C)) := by
  obtain ⟨f1, fd1, h1, i1, b1, G1⟩ := HD
  refine F.ok scPEq (fun vs H Q E h => ?_) (fun cdv A outer s H vs Q E hr h => ?_)
  · obtain ⟨a, b, k, rfl, _⟩ := h
    rfl
  obtain ⟨a, b, k, rfl, ⟨d, e, hd, he, rfl⟩, q⟩ := h
  refine ⟨_, pss_cons (ps_if (pt_not (pt_val (pe_callB call_isi (by rfl) T.isi bIsi (pa_cons (pv 1) (pa_cons (pe_glob rfl PT.mgC (show RelV (.ref PC) (.ref PC) from rfl)) pa_nil))))) (pss_one (ps_ret pe_bl)) pss_nil)
    (pss_one (ps_ret (pe_and (pe_cmpR op_eq (pe_fld (pv 0) rfl) (pe_fld (pv 1) rfl) (nomark _)) (pe_and (pe_cmpR (op_eqD hr.units) (pe_fld (pv 0) rfl) (pe_fld (pv 1) rfl) (nomark _))
      (pe_one (pe_cmpR (op_eqB (rcB_list (eqB_ins G1 h1 i1 b1 pass0)) hr) (pe_fld (pv 0) rfl) (pe_fld (pv 1) rfl) (nomark _))))))), ?_⟩
  have okd := hd.ok
  have oke := he.ok
  obtain ⟨_, dx, lw, ld, lr, lt, lc, as, rs, ts, cs, a1, a2, a3, a4, a5, _⟩ := hd
  obtain ⟨_, dx', lw', ld', lr', lt', lc', bs, rs', ts', cs', e1, e2, e3, e4, e5, _⟩ := he
  refine ⟨_, rfl, _, _, _, _, _, rfl, .own PC, PT.ty e1, PT.kP, _, rfl, iteF ?_⟩
  refine ⟨_, rfl, a, PC, dx, _, _, rfl, a1, PT.cl, PT.n1, pfs_name _ _ _ _ _ _, _, rfl, b, PC, dx', _, _, rfl, e1, PT.cl, PT.n1, pfs_name _ _ _ _ _ _, rfl, _, rfl, ?_⟩
  rw [dec_str]
  rw [key_dec] at q
  by_cases n : d.name = e.name
  · rw [decide_eq_true n] at q ⊢
    rw [Bool.true_and] at q
    refine iteT ⟨_, rfl, a, PC, dx, _, _, rfl, a1, PT.cl, PT.n2, pfs_waits _ _ _ _ _ _, _, rfl, b, PC, dx', _, _, rfl, e1, PT.cl, PT.n2, pfs_waits _ _ _ _ _ _, ?_⟩
    refine words_eqD a2 e2 (fun x hx => plain_word (okd.wok x hx)) (fun x hx => plain_word (oke.wok x hx)) ⟨_, rfl, ?_⟩
    by_cases m : d.waits = e.waits
    · rw [decide_eq_true m] at q ⊢
      rw [Bool.true_and] at q
      refine iteT ⟨_, rfl, a, PC, dx, _, _, rfl, a1, PT.cl, PT.n3, pfs_deeds _ _ _ _ _ _, _, rfl, b, PC, dx', _, _, rfl, e1, PT.cl, PT.n3, pfs_deeds _ _ _ _ _ _, ?_⟩
      exact ⟨_, deeds_B a3 e3 a4 e4 a5 e5, q⟩
    · rw [decide_eq_false m] at q ⊢
      exact iteF q
  · rw [decide_eq_false n] at q ⊢
    exact iteF q
theorem proc_ins {PC CD C a b : Addr} {H : Hp} {d e : ProcD} (h : ProcAt PC CD C H a d) (g : ProcAt PC CD C H b e) : DInsB PC (RProc PC CD C) (.ref a) (.ref b) (decide (d.key = e.key)) H := by
  obtain ⟨_, dx, lw, ld, lr, lt, lc, as, rs, ts, cs, a1, _⟩ := id h
  obtain ⟨_, dx', lw', ld', lr', lt', lc', bs, rs', ts', cs', e1, _⟩ := id g
  exact ⟨a, b, dx, dx', _, _, rfl, rfl, a1, e1, ⟨d, e, h, g, rfl⟩, fun z => by subst z; exact decide_eq_true (ProcAt.self h g)⟩
/-- two lists of Processes -/
theorem procs_B {PC CD C l r : Addr} {H : Hp} {as bs : List Addr} {ds es : List ProcD} (hl : H l = some (.lst (as.map V.ref))) (hr : H r = some (.lst (bs.map V.ref))) (la : as.length = ds.length) (lb : bs.length = es.length)
    (hA : ∀ (i : Nat) b d, as[i]? = some b → ds[i]? = some d → ProcAt PC CD C H b d) (hB : ∀ (i : Nat) b d, bs[i]? = some b → es[i]? = some d → ProcAt PC CD C H b d) :
    DListB (DInsB PC (RProc PC CD C)) (.ref l) (.ref r) (decide (ds.map ProcD.key = es.map ProcD.key)) H := by
  refine ⟨l, r, _, _, rfl, rfl, hl, hr, ?_⟩
  by_cases c : as.length = bs.length
  · refine .inr ⟨by rw [List.length_map, List.length_map, c], fun i => decide ((ds.map ProcD.key)[i]? = (es.map ProcD.key)[i]?), fun i x y hx hy => ?_, ?_⟩
    · obtain ⟨a, ha, rfl⟩ := map_at hx
      obtain ⟨b, hb, rfl⟩ := map_at hy
      have i1 : i < ds.length := by have := (List.getElem?_eq_some_iff.mp ha).1; omega
      have i2 : i < es.length := by have := (List.getElem?_eq_some_iff.mp hb).1; omega
      have d1 : ds[i]? = some ds[i] := List.getElem?_eq_getElem _
      have e1 : es[i]? = some es[i] := List.getElem?_eq_getElem _
      have z := proc_ins (hA i a _ ha d1) (hB i b _ hb e1)
      have ee : decide ((ds.map ProcD.key)[i]? = (es.map ProcD.key)[i]?) = decide (ds[i].key = es[i].key) := by
        rw [List.getElem?_map, List.getElem?_map, d1, e1, Bool.eq_iff_iff, decide_eq_true_iff, decide_eq_true_iff]
        exact ⟨fun h => Option.some.inj h, fun h => congrArg some h⟩
      show DInsB PC (RProc PC CD C) _ _ (decide ((ds.map ProcD.key)[i]? = (es.map ProcD.key)[i]?)) H
      rw [ee]
      exact z
    · have := all_range (xs := ds.map ProcD.key) (ys := es.map ProcD.key) (by rw [List.length_map, List.length_map]; omega)
      rw [← this, List.length_map, List.length_map, la]
  · refine .inl ⟨by rw [List.length_map, List.length_map]; exact c, decide_eq_false fun h => ?_⟩
    have := congrArg List.length h
    rw [List.length_map, List.length_map] at this
    omega
end
end TS
namespace TS
open PySem L2
abbrev sDDelay : Stmt := (inClass (top 52) 7)
/-! what stays whatever some lists hold -/
theorem SameOff.more {Ds : List Addr} {D : Addr} {H H' : Hp} (s : SameOff Ds H H') : SameOff (D :: Ds) H H' := fun b o e n => s b o e fun m => n (List.mem_cons_of_mem _ m)
theorem SameOff.sub {Ds Es : List Addr} {H H' : Hp} (s : SameOff Ds H H') (h : ∀ D ∈ Ds, D ∈ Es) : SameOff Es H H' := fun b o e n => s b o e fun m => n (h b m)
/-- from a heap at which D is none of the objects -/
theorem SameOff.grow {Ds : List Addr} {D : Addr} {H H1 G : Hp} (hD : H D = none) (s : SameOff (D :: Ds) H H1) (sG : SameOff (D :: Ds) H1 G) : SameOff Ds H G := fun b o e n => by
  have nb : b ≠ D := ne_of_none e hD
  have nn : b ∉ D :: Ds := by simp [nb, n]
  exact sG b o (s b o e nn) nn
theorem DOff.grow {CD C a D : Addr} {Ds : List Addr} {H H1 : Hp} {d : DeedD} (h : DOff CD C Ds H a d) (hD : H D = none) (s : SameOff (D :: Ds) H H1) : DOff CD C (D :: Ds) H1 a d := fun G sG => h G (s.grow hD sG)
theorem DOff.less {CD C a D : Addr} {Ds : List Addr} {H : Hp} {d : DeedD} (h : DOff CD C (D :: Ds) H a d) : DOff CD C Ds H a d := fun G sG => h G sG.more
/-- a deed is handed in as itself or as its text -/
def MakesO (CD C : Addr) (Ds : List Addr) (H : Hp) (v : V) (d : DeedD) : Prop := (v = .str d.text ∧ d.Ok) ∨ ∃ a, v = .ref a ∧ DOff CD C Ds H a d
theorem MakesO.grow {CD C D : Addr} {Ds : List Addr} {H H1 : Hp} {v : V} {d : DeedD} (h : MakesO CD C Ds H v d) (hD : H D = none) (s : SameOff (D :: Ds) H H1) : MakesO CD C (D :: Ds) H1 v d := by
  rcases h with h | ⟨a, e, h⟩
  · exact .inl h
  · exact .inr ⟨a, e, h.grow hD s⟩
theorem MakesO.off {CD C : Addr} {Ds : List Addr} {H H1 : Hp} {v : V} {d : DeedD} (h : MakesO CD C Ds H v d) (s : SameOff Ds H H1) : MakesO CD C Ds H1 v d := by
  rcases h with h | ⟨a, e, h⟩
  · exact .inl h
  · exact .inr ⟨a, e, h.off s⟩
theorem MakesO.ok {CD C : Addr} {Ds : List Addr} {H : Hp} {v : V} {d : DeedD} (h : MakesO CD C Ds H v d) : d.Ok := by
  rcases h with h | ⟨a, e, h⟩
  · exact h.2
  · exact DeedAt.ok h.now
theorem lists_same {Ds : List Addr} {H H1 : Hp} (h : Lists Ds H) (s : Same H H1) : Lists Ds H1 := fun D m => let ⟨xs, e⟩ := h D m; ⟨xs, s _ _ e⟩
section
variable {P : Program} {w : World} {K : PySem.W.Frag} {mg : Str → Option Value} {base : Heap}
def spDeedOfM (CD C : Addr) : Sp := fun vs H Q _ => ∃ (v : V) (d : DeedD) (Ds : List Addr), vs = [v] ∧ Lists Ds H ∧ MakesO CD C Ds H v d ∧ ∀ H' a, Same H H' → DOff CD C Ds H' a d → Q (.ref a) H'
theorem ok_deedofM {C CD f : Addr} {fd : FuncData} (F : Fun K "_deed_of" "_deed_of" sDeedOf f fd) (T : BltT mg) (DK : DeedT K mg CD) (D1 : HasDOf P w K mg base CD C) : FnOk P w K mg base CX0 17 f fd ["value"] (spDeedOfM CD C) := by
  obtain ⟨mc, p, g, fd1, c, b1, G1⟩ := D1
  refine F.ok scDeedOf (fun vs H Q E h => ?_) (fun cdv A outer s H vs Q E hr h => ?_)
  · obtain ⟨v, d, Ds, rfl, _⟩ := h
    rfl
  obtain ⟨v, d, Ds, rfl, hDs, hm, q⟩ := h
  refine ⟨_, pss_cons (ps_if (pt_val (pe_callB call_isi (by rfl) T.isi bIsi (pa_cons (pv 0) (pa_cons (pe_glob rfl DK.mgC (show RelV (.ref CD) (.ref CD) from rfl)) pa_nil)))) (pss_one (ps_ret (pv 0))) pss_nil)
    (pss_one (ps_try_thru0 (pss_one (ps_ret (pe_smeth (pe_glob rfl DK.mgC (show RelV (.ref CD) (.ref CD) from rfl)) c G1 hr b1 pass0 (pa_cons (pv 0) pa_nil)))))), ?_⟩
  rcases hm with ⟨rfl, hd⟩ | ⟨a, rfl, ho⟩
  · refine ⟨_, rfl, _, _, _, _, _, rfl, .own CD, .base (.str _), DK.kStr, _, rfl, iteF ?_⟩
    exact ⟨rfl, _, rfl, d.x, d.l, d.t, rfl, hd.1, hd.2.1, hd.2.2, fun H' a s1 na hT => q H' a s1 fun G sG => hT Ds hDs G sG⟩
  · obtain ⟨_, dx, pp, e, _⟩ := ho.now
    refine ⟨_, rfl, _, _, _, _, _, rfl, .own CD, DK.ty e, DK.kD, _, rfl, iteT ?_⟩
    exact ⟨_, rfl, q H a (Same.refl _) ho⟩
def spDeedsOfM (CD C : Addr) : Sp := fun vs H Q _ => ∃ (q : Addr) (xs : List V) (ds : List DeedD) (Ds : List Addr), vs = [.ref q] ∧ H q = some (.lst xs) ∧ Lists Ds H ∧ xs.length = ds.length ∧ (∀ (i : Nat) v d, xs[i]? = some v → ds[i]? = some d → MakesO CD C Ds H v d) ∧ 1 ≤ ds.length ∧ ds.length ≤ 4 ∧
  ∀ H' l (as : List Addr), Same H H' → H l = none → H' l = some (.lst (as.map V.ref)) → as.length = ds.length → (∀ (i : Nat) a d, as[i]? = some a → ds[i]? = some d → DOff CD C Ds H' a d) → Q (.ref l) H'
theorem ok_deedsofM {C CD f : Addr} {fd : FuncData} (F : Fun K "_deeds_of" "_deeds_of" sDeedsOf f fd) (T : BltT mg) (m4 : ∃ t, mg "MOST_DEEDS" = some (.int 4 t)) (D1 : Has P w K mg base "is_short_row" 2 ["value", "most"] spShort) (D2 : Has P w K mg base "_deed_of" 17 ["value"] (spDeedOfM CD C)) :
    FnOk P w K mg base CX0 18 f fd ["values"] (spDeedsOfM CD C) := by
  obtain ⟨f1, fd1, m1, k1, b1, G1⟩ := D1
  obtain ⟨f2, fd2, m2, k2, b2, G2⟩ := D2
  obtain ⟨t4, m4⟩ := m4
  refine F.ok scDeedsOf (fun vs H Q E h => ?_) (fun cdv A outer s H vs Q E hr h => ?_)
  · obtain ⟨q, xs, ds, Ds, rfl, _⟩ := h
    rfl
  obtain ⟨q, xs, ds, Ds, rfl, hq, hDs, hl, hm, h1, h4, k⟩ := h
  have r2 : Room 2 _ := hr.mono (by decide)
  refine ⟨_, pss_cons (ps_if (pt_not (pt_val (pe_call G1 r2 rfl m1 k1 b1 .nil pass0 (pa_cons (pv 0) (pa_cons (pe_glob rfl m4 (show RelV (.int 4) (.int 4 t4) from ⟨_, rfl⟩)) pa_nil))))) (pss_one (ps_ret pe_non)) pss_nil)
    (pss_cons (ps_setLc (i := 1) (own := [("value", 2)]) (g := gName 2) (tt := tYes) (by rfl) scDeedsOf.nd rfl rfl (sw_true rfl rfl rfl (by decide +kernel)) (pi_list (pv 0)) (blkOk_by (own := [("value", 2)]) (N := nmDeedsOf) (sc := defScope sDeedsOf) (by decide +kernel)) (fun _ _ _ _ _ => pg_name (i := 2) scDeedsOf.nd rfl (Or.inl rfl)) (fun _ _ _ _ _ => pts_nil)
      (fun _ _ _ _ _ => pe_call G2 hr rfl m2 k2 b2 .nil pass0 (pa_cons (pv 2) pa_nil)))
    (pss_one (ps_ret (pe_ifExp (pt_val (pe_callB (cr_any rfl) (by rfl) T.any (by decide +kernel) (pa_cons
      (pe_lc (own := [("deed", 3)]) (g := gName 3) (tt := tYes) (by rfl) scDeedsOf.nd (pi_list (pv 1)) (blkOk_by (own := [("deed", 3)]) (N := nmDeedsOf) (sc := defScope sDeedsOf) (by decide +kernel)) (fun _ _ _ _ _ => pg_name (i := 3) scDeedsOf.nd rfl (Or.inl rfl)) (fun _ _ _ _ _ => pts_nil)
        (fun _ _ _ _ _ => pe_cmpR op_isN (pv 3) pe_non (nomark _))) pa_nil))) pe_non (pv 1))))), ?_⟩
  refine ⟨_, rfl, q, _, 4, rfl, .inl hq, by omega, by omega, fun H1 s1 => ⟨_, rfl, iteF ?_⟩⟩
  have hq1 := s1 _ _ hq
  refine ⟨_, rfl, q, rfl, ⟨_, SqL.of hq1⟩, fun D hD => lc_eachL (K := K) (fun G v (d : DeedD) => ∃ a, v = .ref a ∧ DOff CD C (D :: Ds) G a d) (ts := ds) hq1 hl.symm (by omega) hD (fun _ => rfl) (fun i v d H2 G hv hd s2 hLs hG => ?_) (fun H2 ys s2 d2 e2 => ?_)⟩
  · refine ⟨_, rfl, v, d, D :: Ds, rfl, lists_cons hLs (lists_same hDs (s1.trans s2)), (((hm i v d hv hd).off (Same.off s1)).grow hD (Same.off s2)), fun H3 a s3 hT => hG _ H3 s3 fun H4 s4 => ⟨a, rfl, hT.off (s4.sub fun c hc => by rw [List.mem_singleton.mp hc]; simp)⟩⟩
  · obtain ⟨as, eas, _⟩ := refs_of (φ := fun _ => True) ys fun y hy => by
      obtain ⟨j, hj, e⟩ := List.getElem_of_mem hy
      have ht : ds[j]? = some (ds[j]'(by rw [← e2.1]; exact hj)) := List.getElem?_eq_getElem _
      obtain ⟨a, ea, _⟩ := e2.2 j y _ (by rw [← e]; exact List.getElem?_eq_getElem hj) ht
      exact ⟨a, ea, trivial⟩
    subst eas
    have la : as.length = ds.length := by
      have := e2.1
      rwa [List.length_map] at this
    refine ⟨_, rfl, D, rfl, ⟨_, SqL.of d2⟩, fun D2 hD2 => lc_list (K := K) (a := D) (xs := as.map V.ref) (fun i H3 => Same H2 H3 ∧ H3 D2 = some (.lst ((List.replicate i false).map V.bl))) ⟨same_upd hD2 _, upd_same⟩ (fun i H3 _ z => SqL.of (z.1 _ _ d2)) (fun i x H3 hx z => ?_) (fun H3 z => ?_)⟩
    · obtain ⟨s3, z3⟩ := z
      have hi : i < as.length := by
        have := (List.getElem?_eq_some_iff.mp hx).1
        rwa [List.length_map] at this
      obtain ⟨a, rfl⟩ : ∃ a, x = .ref a := by
        obtain ⟨a, _, e⟩ := List.mem_map.mp (List.mem_of_getElem? hx)
        exact ⟨a, e.symm⟩
      refine ⟨rfl, ?_⟩
      unfold tYes
      dsimp only
      rw [if_pos rfl]
      refine ⟨_, rfl, rfl, _, z3, ?_, fun b o h => ?_, ?_⟩
      · simp only [List.length_map, List.length_replicate]
        exact small1000 (by omega)
      · rw [upd_ne (ne_of_none h hD2)]
        exact s3 b o h
      · rw [upd_same, List.replicate_succ', List.map_append]
        rfl
    · obtain ⟨s3, z3⟩ := z
      refine ⟨D2, _, rfl, SqL.of z3, _, rfl, ?_⟩
      have ea : (List.replicate (as.map V.ref).length false).any id = false := by simp
      rw [ea]
      refine iteF ⟨_, rfl, k H3 D as ((s1.trans s2).trans s3) (s1.free hD) (s3 _ _ d2) la fun i a d ha hd => ?_⟩
      obtain ⟨a', e, hT⟩ := e2.2 i (.ref a) d (by rw [List.getElem?_map, ha]; rfl) hd
      cases e
      exact hT.less.off (Same.off s3)
/-! Deed.delayed -/
def DeedD.later (d : DeedD) : DeedD := { d with l := true }
theorem DeedD.later_ok {d : DeedD} (h : d.Ok) : d.later.Ok := h
def spDDelay (CD C : Addr) : Sp := fun vs H Q _ => ∃ (a : Addr) (d : DeedD), vs = [.ref a] ∧ DAt CD C H a d ∧ ∀ H' b, Same H H' → H b = none → (∀ Ds, Lists Ds H → DOff CD C Ds H' b d.later) → Q (.ref b) H'
theorem scDDelay : FnScope ["self"] ["self"] (defScope sDDelay) := ⟨rfl, rfl, rfl, by decide +kernel, rfl, by decide +kernel, by decide +kernel⟩
theorem ok_ddelay {C CD f : Addr} {fd : FuncData} (F : Fun K "delayed" "Deed.delayed" sDDelay f fd) (DK : DeedK K mg CD) (DD : HasDeed P w K mg base CD C) : FnOk P w K mg base CX0 16 f fd ["self"] (spDDelay CD C) := by
  obtain ⟨f1, fd1, g1, M1, b1, G1⟩ := DD
  refine F.ok scDDelay (fun vs H Q E h => ?_) (fun cdv A outer s H vs Q E hr h => ?_)
  · obtain ⟨a, d, rfl, _⟩ := h
    rfl
  obtain ⟨a, d, rfl, hd, q⟩ := h
  refine ⟨_, pss_one (ps_ret (pe_makeK M1 G1 hr rfl DK.mgC b1 pass0 (pa_cons (pe_fld (pv 0) rfl) (pa_cons (pe_fld (pv 0) rfl) pa_nil)) (pk_cons pe_bl pk_nil))), ?_⟩
  obtain ⟨hw, dx, p, e, ht⟩ := hd
  refine ⟨_, rfl, a, CD, dx, _, _, rfl, e, DK.cl, DK.n1, dfs_var _ _ _ _, _, rfl, a, CD, dx, _, _, rfl, e, DK.cl, DK.n2, dfs_term _ _ _ _, ?_⟩
  refine ⟨rfl, rfl, fun b dx na nd ne => ?_⟩
  exact deed_at hw (.inr (.inr ⟨p, rfl, ht⟩)) ht.fine ht.deep na nd ne fun H3 s3 hT => ⟨rfl, q H3 b s3 na fun Ds hDs => hT Ds hDs⟩
end
end TS
namespace TS
open PySem L2
section
variable {P : Program} {w : World} {K : PySem.W.Frag} {mg : Str → Option Value} {base : Heap}
/-- a Process that stays one whatever some lists hold -/
def POff (PC CD C : Addr) (Ds : List Addr) (H : Hp) (a : Addr) (p : ProcD) : Prop := ∀ G, SameOff Ds H G → ProcAt PC CD C G a p
theorem POff.off {PC CD C a : Addr} {Ds : List Addr} {H H' : Hp} {p : ProcD} (h : POff PC CD C Ds H a p) (s : SameOff Ds H H') : POff PC CD C Ds H' a p := fun G sG => h G (s.trans sG)
theorem POff.now {PC CD C a : Addr} {Ds : List Addr} {H : Hp} {p : ProcD} (h : POff PC CD C Ds H a p) : ProcAt PC CD C H a p := h H (SameOff.refl _ _)
theorem POff.grow {PC CD C a D : Addr} {Ds : List Addr} {H H1 : Hp} {p : ProcD} (h : POff PC CD C Ds H a p) (hD : H D = none) (s : SameOff (D :: Ds) H H1) : POff PC CD C (D :: Ds) H1 a p := fun G sG => h G (s.grow hD sG)
theorem POff.less {PC CD C a D : Addr} {Ds : List Addr} {H : Hp} {p : ProcD} (h : POff PC CD C (D :: Ds) H a p) : POff PC CD C Ds H a p := fun G sG => h G sG.more
def spPInitM (PC CD C : Addr) : Sp := fun vs H Q _ => ∃ (p dx qw qd : Addr) (pd : ProcD) (xs : List V) (Ds : List Addr), vs = [.ref p, .str pd.name, .ref qw, .ref qd] ∧ H p = some (.ins PC dx []) ∧ pd.Ok ∧ H qw = some (.lst (pd.waits.map V.str)) ∧ H qd = some (.lst xs) ∧
  Lists Ds H ∧ xs.length = pd.ds.length ∧ (∀ (i : Nat) v d, xs[i]? = some v → pd.ds[i]? = some d → MakesO CD C Ds H v d) ∧
  ∀ H', SameX p H H' → POff PC CD C Ds H' p pd → Q .non H'
theorem ok_pinitM {C CD PC f : Addr} {fd : FuncData} (F : Fun K "__init__" "Process.__init__" sPInit f fd) (T : BltT mg) (ml : mg "list" = none) (TK : TermK K mg C) (DK : DeedK K mg CD) (PK : ProcK K mg PC)
    (D1 : Has P w K mg base "is_word" 1 ["value"] (spIsWord K)) (D2 : Has P w K mg base "are_unlike_words" 3 ["value", "most"] spUnlikeW) (D3 : Has P w K mg base "_deeds_of" 18 ["values"] (spDeedsOfM CD C)) (D4 : Has P w K mg base "ascending" 1 ["values"] spAscF)
    (PV : HasP P w K mg base CD "variable" 1 (spDVar CD C)) (PT : HasP P w K mg base CD "term" 1 (spDTerm CD C)) (MV : HasM P w K mg base C "variables" 1 ["self"] (spTVars C)) (MC : HasM P w K mg base C "constants" 1 ["self"] (spTCons C)) : FnOk P w K mg base CX0 19 f fd ["self", "name", "waits", "deeds"] (spPInitM PC CD C) := by
  obtain ⟨f1, fd1, m1, k1, b1, G1⟩ := D1
  obtain ⟨f2, fd2, m2, k2, b2, G2⟩ := D2
  obtain ⟨f3, fd3, m3, k3, b3, G3⟩ := D3
  obtain ⟨f4, fd4, m4, k4, b4, G4⟩ := D4
  obtain ⟨p5, g5, fd5, h5, b5, G5⟩ := PV
  obtain ⟨p6, g6, fd6, h6, b6, G6⟩ := PT
  obtain ⟨f7, fd7, h7, b7, G7⟩ := MV
  obtain ⟨f8, fd8, h8, b8, G8⟩ := MC
  obtain ⟨tT, mT⟩ := PK.turn
  obtain ⟨t4, mW⟩ := PK.most
  refine F.ok scPInit (fun vs H Q E h => ?_) (fun cdv A outer s H vs Q E hr h => ?_)
  · obtain ⟨p, dx, qw, qd, pd, xs, Ds, rfl, _⟩ := h
    rfl
  obtain ⟨p, dx, qw, qd, pd, vxs, Ds, rfl, hp, ok, hqw, hqd, hDs, hlx, hmx, q⟩ := h
  have r1 : Room 1 _ := hr.mono (by decide)
  have r2 : Room 2 _ := hr.mono (by decide)
  have r3 : Room 3 _ := hr.mono (by decide)
  refine ⟨_, pss_cons (ps_if (PW.pt (pw_or (pt_not (pt_val (pe_call G1 r1 rfl m1 k1 b1 .nil pass0 (pa_cons (pv 1) pa_nil)))) (pw_or1 (pt_cmpR op_eq (pv 1) (pe_glob rfl mT (show RelV (.str "turn") (.str "turn" tT) from ⟨_, rfl⟩)) (nomark _))))) (pss_one ps_dead) pss_nil)
    (pss_cons (ps_if (pt_not (pt_val (pe_call G2 r3 rfl m2 k2 b2 .nil pass0 (pa_cons (pv 2) (pa_cons (pe_glob rfl mW (show RelV (.int 4) (.int 4 t4) from ⟨_, rfl⟩)) pa_nil))))) (pss_one ps_dead) pss_nil)
    (pss_cons (ps_set (i := 4) scPInit.nd rfl (.inl rfl) (pe_call G3 hr rfl m3 k3 b3 .nil pass0 (pa_cons (pv 3) pa_nil)))
    (pss_cons (ps_if (pt_cmpR op_isN (pv 4) pe_non (nomark _)) (pss_one ps_dead) pss_nil)
    (pss_cons (ps_fld (pv 0) (pv 1) rfl)
    (pss_cons (ps_fld (pv 0) (pe_callTy call_list_of (by rfl) ml (by decide +kernel) (pa_cons (pv 2) pa_nil)) rfl)
    (pss_cons (ps_fld (pv 0) (pv 4) rfl)
    (pss_cons (ps_fld (pv 0) (pe_call G4 r1 rfl m4 k4 b4 .nil pass0 (pa_cons
      (pe_lc2 (own := [("deed", 6), ("word", 5)]) (vs1 := [5]) (g := gName 6) (g1 := gName 5) (tt := tYes) (tt1 := tYes) (te := tVar 5) (wi1 := iList K (tMeth C "variables" (spTVars C) [] E0 (tProp CD (spDTerm CD C) [] E0 (tVar 6)) tNil)) (by rfl) scPInit.nd (pi_list (pv 4)) (blkOk_by (own := [("deed", 6), ("word", 5)]) (N := nmPInit) (sc := defScope sPInit) (by decide +kernel)) (by decide)
        (fun _ _ _ _ _ => pg_name (i := 6) scPInit.nd rfl (Or.inl rfl)) (fun _ _ _ _ _ => pts_nil)
        (fun _ _ _ _ _ => pi_list (pe_meth0 (pe_prop (pv 6) DK.cl h6 G6 r2 b6 .nil pass0 rfl) TK.cl h7 G7 r1 b7 .nil pass0))
        (fun _ _ _ _ _ => pg_name (i := 5) scPInit.nd rfl (Or.inl rfl)) (fun _ _ _ _ _ => pts_nil) (fun _ _ _ _ _ => pv 5)) pa_nil)) rfl)
    (pss_cons (ps_fld (pv 0) (pe_call G4 r1 rfl m4 k4 b4 .nil pass0 (pa_cons
      (pe_lc (own := [("deed", 6)]) (g := gName 6) (tt := tYes) (by rfl) scPInit.nd (pi_list (pv 4)) (blkOk_by (own := [("deed", 6)]) (N := nmPInit) (sc := defScope sPInit) (by decide +kernel)) (fun _ _ _ _ _ => pg_name (i := 6) scPInit.nd rfl (Or.inl rfl)) (fun _ _ _ _ _ => pts_nil)
        (fun _ _ _ _ _ => pe_prop (pv 6) DK.cl h5 G5 r2 b5 .nil pass0 rfl)) pa_nil)) rfl)
    (pss_one (ps_fld (pv 0) (pe_call G4 r1 rfl m4 k4 b4 .nil pass0 (pa_cons
      (pe_lc2 (own := [("deed", 6), ("number", 7)]) (vs1 := [7]) (g := gName 6) (g1 := gName 7) (tt := tYes) (tt1 := tYes) (te := tVar 7) (wi1 := iList K (tMeth C "constants" (spTCons C) [] E0 (tProp CD (spDTerm CD C) [] E0 (tVar 6)) tNil)) (by rfl) scPInit.nd (pi_list (pv 4)) (blkOk_by (own := [("deed", 6), ("number", 7)]) (N := nmPInit) (sc := defScope sPInit) (by decide +kernel)) (by decide)
        (fun _ _ _ _ _ => pg_name (i := 6) scPInit.nd rfl (Or.inl rfl)) (fun _ _ _ _ _ => pts_nil)
        (fun _ _ _ _ _ => pi_list (pe_meth0 (pe_prop (pv 6) DK.cl h6 G6 r2 b6 .nil pass0 rfl) TK.cl h8 G8 r1 b8 .nil pass0))
        (fun _ _ _ _ _ => pg_name (i := 7) scPInit.nd rfl (Or.inl rfl)) (fun _ _ _ _ _ => pts_nil) (fun _ _ _ _ _ => pv 7)) pa_nil)) rfl)))))))))), ?_⟩
  have ln : pd.name.length ≤ 8 := ok.name.2.1
  refine ⟨_, rfl, .str pd.name, rfl, .inl ⟨pd.name, rfl, by omega, fun H1 s1 => ⟨_, rfl, ?_⟩⟩⟩
  rw [wordOk_iff.mpr ok.name]
  have nt : decide (V.str pd.name = V.str "turn") = false := decide_eq_false fun e => ok.turn (V.str.inj e)
  refine iteF ⟨_, rfl, rfl, _, rfl, ?_⟩
  rw [nt]
  refine iteF ⟨_, rfl, qw, pd.waits, 4, rfl, s1 _ _ hqw, ok.wok, ok.wnd, ok.w1, ok.w4, by decide, fun H2 s2 => ⟨_, rfl, iteF ⟨_, rfl, qd, vxs, pd.ds, Ds, rfl, s2 _ _ (s1 _ _ hqd), lists_same hDs (s1.trans s2), hlx, fun i v d x y => (hmx i v d x y).off (Same.off (s1.trans s2)), ok.d1, ok.d4, fun H3 ld as s3 nl hl la hD => ?_⟩⟩⟩
  refine ⟨_, rfl, rfl, _, rfl, iteF ?_⟩
  have p2 : H2 p = some (.ins PC dx []) := s2 _ _ (s1 _ _ hp)
  have p3 := s3 _ _ p2
  have lp : ld ≠ p := (ne_of_none p2 nl).symm
  have s03 : Same H H3 := (s1.trans s2).trans s3
  have qw3 := s03 _ _ hqw
  have qp : qw ≠ p := ne_of qw3 p3 (by intro z; cases z)
  have ap : ∀ (i : Nat) a d, as[i]? = some a → pd.ds[i]? = some d → a ≠ p := fun i a d ha hd z => by
    subst z
    obtain ⟨_, dxb, pb, hb, _⟩ := (hD i a d ha hd).now
    rw [p3] at hb
    have e2 : ([] : List (Str × V)) = dfs d.x pb d.l (deedText d.x d.l d.t) := by
      injection hb with hb
      injection hb
    have := dfs_text d.x pb d.l (deedText d.x d.l d.t)
    rw [← e2] at this
    cases this
  have D3 : ∀ A, SameX p H3 A → ∀ (i : Nat) a d, as[i]? = some a → pd.ds[i]? = some d → DAt CD C A a d := fun A x i a d ha hd => (hD i a d ha hd).now.sameX x p3 (ap i a d ha hd)
  have dof : ∀ d ∈ pd.ds, (twords d.t).Perm (once d.t.words) ∧ (tnums d.t).Perm (once d.t.nums) := fun d hd => by
    obtain ⟨i, hi, e⟩ := List.getElem_of_mem hd
    have ha : as[i]? = some (as[i]'(by omega)) := List.getElem?_eq_getElem _
    exact (D3 H3 (SameX.refl p H3) i _ d ha (by rw [← e]; exact List.getElem?_eq_getElem hi)).tw
  have hl0 : (as.map V.ref).length = pd.ds.length := by rw [List.length_map, la]
  have fwl : ((pd.ds.map fun d => (twords d.t).map V.str).flatten).length ≤ 1000 := by
    refine Nat.le_trans (flat_le (n := 16) _ fun z hz => ?_) (by rw [List.length_map]; have := ok.d4; omega)
    obtain ⟨d, hd, rfl⟩ := List.mem_map.mp hz
    have l1 := leaves16 (ok.dok d hd).2.2
    have l2 := words_le d.t
    have l3 := once_len d.t.words
    have l4 := (dof d hd).1.length_eq
    rw [List.length_map]
    omega
  have fnl : ((pd.ds.map fun d => (tnums d.t).map V.int).flatten).length ≤ 1000 := by
    refine Nat.le_trans (flat_le (n := 16) _ fun z hz => ?_) (by rw [List.length_map]; have := ok.d4; omega)
    obtain ⟨d, hd, rfl⟩ := List.mem_map.mp hz
    have l1 := leaves16 (ok.dok d hd).2.2
    have l2 := nums_le d.t
    have l3 := once_len d.t.nums
    have l4 := (dof d hd).2.length_eq
    rw [List.length_map]
    omega
  -- self._name
  refine ⟨_, rfl, _, rfl, p, PC, dx, [], rfl, p3, PK.cl, PK.n1, (by show 0 < 1000; decide), ?_⟩
  generalize ez1 : putF "_name" (.str pd.name) [] = z1
  have c1 : z1.length ≤ 1 := by
    rw [← ez1]
    exact few (Nat.le_refl 0)
  have x1 : SameX p H3 (upd H3 p (.ins PC dx z1)) := sx_self
  have q1 : (upd H3 p (.ins PC dx z1)) p = some (.ins PC dx z1) := upd_same
  generalize upd H3 p (.ins PC dx z1) = A1 at x1 q1
  -- self._waits
  refine ⟨_, rfl, qw, _, rfl, .inl (SqL.of (x1 _ _ qw3 qp)), fun lw hlw => ⟨_, rfl, p, PC, dx, z1, rfl, same_upd hlw _ _ _ q1, PK.cl, PK.n2, by omega, ?_⟩⟩
  have wp : lw ≠ p := (ne_of_none q1 hlw).symm
  have w3 : H3 lw = none := by
    cases e : H3 lw with
    | none => rfl
    | some o =>
      rw [x1 _ _ e wp] at hlw
      cases hlw
  generalize ez2 : putF "_waits" (.ref lw) z1 = z2
  have c2 : z2.length ≤ 2 := by
    rw [← ez2]
    exact few c1
  have x2 : SameX p H3 (upd (upd A1 lw (.lst (pd.waits.map V.str))) p (.ins PC dx z2)) := sx_upd (x1.trans (Same.x (same_upd hlw _)))
  have q2 : (upd (upd A1 lw (.lst (pd.waits.map V.str))) p (.ins PC dx z2)) p = some (.ins PC dx z2) := upd_same
  have lw2 : (upd (upd A1 lw (.lst (pd.waits.map V.str))) p (.ins PC dx z2)) lw = some (.lst (pd.waits.map V.str)) := lst_upd upd_same wp
  generalize upd (upd A1 lw (.lst (pd.waits.map V.str))) p (.ins PC dx z2) = A2 at x2 q2 lw2
  -- self._deeds
  refine ⟨_, rfl, _, rfl, p, PC, dx, z2, rfl, q2, PK.cl, PK.n3, by omega, ?_⟩
  generalize ez3 : putF "_deeds" (.ref ld) z2 = z3
  have c3 : z3.length ≤ 3 := by
    rw [← ez3]
    exact few c2
  have x3 : SameX p H3 (upd A2 p (.ins PC dx z3)) := sx_upd x2
  have q3 : (upd A2 p (.ins PC dx z3)) p = some (.ins PC dx z3) := upd_same
  have lw3 : (upd A2 p (.ins PC dx z3)) lw = some (.lst (pd.waits.map V.str)) := lst_upd lw2 wp
  generalize upd A2 p (.ins PC dx z3) = A3 at x3 q3 lw3
  have la3 := x3 _ _ hl lp
  -- self._reads
  refine ⟨_, rfl, ld, rfl, ⟨_, SqL.of la3⟩, fun D hDn => lc_flatL (K := K) (zs := pd.ds.map fun d => (twords d.t).map V.str) la3 (by rw [List.length_map, hl0]) ?_ hDn (fun _ => rfl) (fun _ _ => rfl) (fun _ _ => rfl) (fun i x z H1 R hx hz sa q => ?_) (fun H4 s4 d4 => ?_)⟩
  · exact fwl
  · obtain ⟨a, ha, rfl⟩ := map_at hx
    obtain ⟨d, hd, rfl⟩ := map_at hz
    have dat := D3 H1 (x3.trans (Same.x sa)) i a d ha hd
    obtain ⟨_, dx', b, e, _⟩ := id dat
    refine ⟨_, rfl, a, dx', _, rfl, e, a, d, rfl, dat, fun p' tp => ?_⟩
    obtain ⟨_, _, dx2, v, l, qq, r, ws, ns, h1, _⟩ := id tp
    exact ⟨p', dx2, _, rfl, h1, tfs_no _ _ _ _ _ _ _ (by decide +kernel), p', d.t, rfl, tp, fun l ws hl pm so => q l _ (same_upd hl _) hl (by rw [twords_eq pm so]; exact upd_same)⟩
  have fl : ((pd.ds.map fun d => (twords d.t).map V.str).flatten) = ((pd.ds.map fun d => twords d.t).flatten).map V.str := by
    rw [List.map_flatten, List.map_map]
    rfl
  have mr : ∀ x, x ∈ (pd.ds.map fun d => twords d.t).flatten ↔ pd.read x := fun x => by
    rw [List.mem_flatten]
    constructor
    · rintro ⟨z, hz, hx⟩
      obtain ⟨d, hd, rfl⟩ := List.mem_map.mp hz
      exact ⟨d, hd, (once_mem _ _).mp ((dof d hd).1.mem_iff.mp hx)⟩
    · rintro ⟨d, hd, hx⟩
      exact ⟨_, List.mem_map.mpr ⟨d, hd, rfl⟩, (dof d hd).1.mem_iff.mpr ((once_mem _ _).mpr hx)⟩
  refine ⟨D, _, rfl, d4, ?_, .inl ⟨_, fl, ?_, fun lr H5 rs s5 hlr prs srs hr5 => ⟨_, rfl, p, PC, dx, z3, rfl, s5 _ _ (s4 _ _ q3), PK.cl, PK.n4, by omega, ?_⟩⟩⟩
  · exact fwl
  · exact ok.few _ (once_nd _) fun x hx => (mr x).mp ((once_mem _ _).mp hx)
  have x35 : SameX p H3 H5 := x3.trans (Same.x (s4.trans s5))
  have q5 : H5 p = some (.ins PC dx z3) := s5 _ _ (s4 _ _ q3)
  have lw5 := s5 _ _ (s4 _ _ lw3)
  have rp : lr ≠ p := (ne_of_none (s4 _ _ q3) hlr).symm
  generalize ez4 : putF "_reads" (.ref lr) z3 = z4
  have c4 : z4.length ≤ 4 := by
    rw [← ez4]
    exact few c3
  have x6 : SameX p H3 (upd H5 p (.ins PC dx z4)) := sx_upd x35
  have q6 : (upd H5 p (.ins PC dx z4)) p = some (.ins PC dx z4) := upd_same
  have lw6 : (upd H5 p (.ins PC dx z4)) lw = some (.lst (pd.waits.map V.str)) := lst_upd lw5 wp
  have lr6 : (upd H5 p (.ins PC dx z4)) lr = some (.lst (rs.map V.str)) := lst_upd hr5 rp
  generalize upd H5 p (.ins PC dx z4) = A6 at x6 q6 lw6 lr6
  have la6 := x6 _ _ hl lp
  -- self._writes
  refine ⟨_, rfl, ld, rfl, ⟨_, SqL.of la6⟩, fun D2 hD2 => lc_eachL (K := K) (fun _ v (d : DeedD) => v = .str d.x) (ts := pd.ds) la6 hl0.symm (by rw [hl0]; have := ok.d4; omega) hD2 (fun _ => rfl) (fun i x d H1 G hx hd sa hLs hG => ?_) (fun H7 ys s7 d7 e7 => ?_)⟩
  · obtain ⟨a, ha, rfl⟩ := map_at hx
    have dat := D3 H1 (x6.trans (Same.x sa)) i a d ha hd
    obtain ⟨_, dx', b, e, _⟩ := id dat
    exact ⟨_, rfl, a, dx', _, rfl, e, a, d, rfl, dat, hG _ H1 (Same.refl _) fun _ _ => rfl⟩
  have ey : ys = (pd.ds.map (·.x)).map V.str := by
    refine List.ext_getElem? fun i => ?_
    rw [List.map_map, List.getElem?_map]
    by_cases c : i < ys.length
    · have hd : pd.ds[i]? = some (pd.ds[i]'(by rw [← e7.1]; exact c)) := List.getElem?_eq_getElem _
      rw [hd, List.getElem?_eq_getElem c, e7.2 i _ _ (List.getElem?_eq_getElem c) hd]
      rfl
    · rw [List.getElem?_eq_none (by omega), List.getElem?_eq_none (by rw [← e7.1]; omega)]
      rfl
  have mw : ∀ x, x ∈ pd.ds.map (·.x) ↔ pd.written x := fun x => by
    rw [List.mem_map]
    exact ⟨fun ⟨d, hd, e⟩ => ⟨d, hd, e.symm⟩, fun ⟨d, hd, e⟩ => ⟨d, hd, e.symm⟩⟩
  refine ⟨D2, _, rfl, d7, ?_, .inl ⟨_, ey, ?_, fun lt H8 ts s8 hlt pts sts hr8 => ⟨_, rfl, p, PC, dx, z4, rfl, s8 _ _ (s7 _ _ q6), PK.cl, PK.n5, by omega, ?_⟩⟩⟩
  · rw [e7.1]
    have := ok.d4
    omega
  · have h := once_len (pd.ds.map (·.x))
    rw [List.length_map] at h
    have := ok.d4
    omega
  have x68 : SameX p H3 H8 := x6.trans (Same.x (s7.trans s8))
  have q8 : H8 p = some (.ins PC dx z4) := s8 _ _ (s7 _ _ q6)
  have lw8 := s8 _ _ (s7 _ _ lw6)
  have lr8 := s8 _ _ (s7 _ _ lr6)
  have tp : lt ≠ p := (ne_of_none (s7 _ _ q6) hlt).symm
  generalize ez5 : putF "_writes" (.ref lt) z4 = z5
  have c5 : z5.length ≤ 5 := by
    rw [← ez5]
    exact few c4
  have x9 : SameX p H3 (upd H8 p (.ins PC dx z5)) := sx_upd x68
  have q9 : (upd H8 p (.ins PC dx z5)) p = some (.ins PC dx z5) := upd_same
  have lw9 : (upd H8 p (.ins PC dx z5)) lw = some (.lst (pd.waits.map V.str)) := lst_upd lw8 wp
  have lr9 : (upd H8 p (.ins PC dx z5)) lr = some (.lst (rs.map V.str)) := lst_upd lr8 rp
  have lt9 : (upd H8 p (.ins PC dx z5)) lt = some (.lst (ts.map V.str)) := lst_upd hr8 tp
  generalize upd H8 p (.ins PC dx z5) = A9 at x9 q9 lw9 lr9 lt9
  have la9 := x9 _ _ hl lp
  -- self._constants
  refine ⟨_, rfl, ld, rfl, ⟨_, SqL.of la9⟩, fun D hDn => lc_flatL (K := K) (zs := pd.ds.map fun d => (tnums d.t).map V.int) la9 (by rw [List.length_map, hl0]) ?_ hDn (fun _ => rfl) (fun _ _ => rfl) (fun _ _ => rfl) (fun i x z H1 R hx hz sa q => ?_) (fun H10 s10 d10 => ?_)⟩
  · exact fnl
  · obtain ⟨a, ha, rfl⟩ := map_at hx
    obtain ⟨d, hd, rfl⟩ := map_at hz
    have dat := D3 H1 (x9.trans (Same.x sa)) i a d ha hd
    obtain ⟨_, dx', b, e, _⟩ := id dat
    refine ⟨_, rfl, a, dx', _, rfl, e, a, d, rfl, dat, fun p' tp => ?_⟩
    obtain ⟨_, _, dx2, v, l, qq, r, ws, ns, h1, _⟩ := id tp
    exact ⟨p', dx2, _, rfl, h1, tfs_no _ _ _ _ _ _ _ (by decide +kernel), p', d.t, rfl, tp, fun l ws hl pm so => q l _ (same_upd hl _) hl (by rw [tnums_eq pm so]; exact upd_same)⟩
  have fn : ((pd.ds.map fun d => (tnums d.t).map V.int).flatten) = ((pd.ds.map fun d => tnums d.t).flatten).map V.int := by
    rw [List.map_flatten, List.map_map]
    rfl
  have mc : ∀ x, x ∈ (pd.ds.map fun d => tnums d.t).flatten ↔ pd.const x := fun x => by
    rw [List.mem_flatten]
    constructor
    · rintro ⟨z, hz, hx⟩
      obtain ⟨d, hd, rfl⟩ := List.mem_map.mp hz
      exact ⟨d, hd, (once_mem _ _).mp ((dof d hd).2.mem_iff.mp hx)⟩
    · rintro ⟨d, hd, hx⟩
      exact ⟨_, List.mem_map.mpr ⟨d, hd, rfl⟩, (dof d hd).2.mem_iff.mpr ((once_mem _ _).mpr hx)⟩
  refine ⟨D, _, rfl, d10, fnl, .inr ⟨_, fn, ?_, fun lc H11 cs s11 hlc pcs scs hr11 => ⟨_, rfl, p, PC, dx, z5, rfl, s11 _ _ (s10 _ _ q9), PK.cl, PK.n6, by omega, ?_⟩⟩⟩
  · exact ok.fewN _ (once_nd _) fun x hx => (mc x).mp ((once_mem _ _).mp hx)
  have x911 : SameX p H3 H11 := x9.trans (Same.x (s10.trans s11))
  have lw11 := s11 _ _ (s10 _ _ lw9)
  have lr11 := s11 _ _ (s10 _ _ lr9)
  have lt11 := s11 _ _ (s10 _ _ lt9)
  have cp : lc ≠ p := (ne_of_none (s10 _ _ q9) hlc).symm
  have ez : putF "_constants" (.ref lc) z5 = pfs pd.name lw ld lr lt lc := by
    rw [← ez5, ← ez4, ← ez3, ← ez2, ← ez1]
    rfl
  rw [ez]
  have x12 : SameX p H3 (upd H11 p (.ins PC dx (pfs pd.name lw ld lr lt lc))) := sx_upd x911
  have q12 : (upd H11 p (.ins PC dx (pfs pd.name lw ld lr lt lc))) p = some (.ins PC dx (pfs pd.name lw ld lr lt lc)) := upd_same
  have lw12 : (upd H11 p (.ins PC dx (pfs pd.name lw ld lr lt lc))) lw = some (.lst (pd.waits.map V.str)) := lst_upd lw11 wp
  have lr12 : (upd H11 p (.ins PC dx (pfs pd.name lw ld lr lt lc))) lr = some (.lst (rs.map V.str)) := lst_upd lr11 rp
  have lt12 : (upd H11 p (.ins PC dx (pfs pd.name lw ld lr lt lc))) lt = some (.lst (ts.map V.str)) := lst_upd lt11 tp
  have lc12 : (upd H11 p (.ins PC dx (pfs pd.name lw ld lr lt lc))) lc = some (.lst (cs.map V.int)) := lst_upd hr11 cp
  generalize upd H11 p (.ins PC dx (pfs pd.name lw ld lr lt lc)) = A12 at x12 q12 lw12 lr12 lt12 lc12
  have la12 := x12 _ _ hl lp
  have fr : ∀ {B : Hp} {b : Addr}, SameX p H3 B → B b = none → b ≠ p → H b = none := fun {B b} x hb n => by
    cases e : H b with
    | none => rfl
    | some o =>
      rw [x _ _ (s03 _ _ e) n] at hb
      cases hb
  refine q A12 (fun b o e n => x12 b o (s03 _ _ e) n) fun G sG => ?_
  have nD : ∀ b, H b = none → b ∉ Ds := fun b hb m => by
    obtain ⟨xs, e⟩ := hDs b m
    rw [hb] at e
    cases e
  have pD : p ∉ Ds := fun m => by
    obtain ⟨xs, e⟩ := hDs p m
    rw [hp] at e
    cases e
  refine ⟨ok, dx, lw, ld, lr, lt, lc, as, rs, ts, cs, sG _ _ q12 pD, sG _ _ lw12 (nD _ (fr (SameX.refl p H3) w3 wp)), sG _ _ la12 (nD _ ((s1.trans s2).free nl)), la, fun i a d ha hd => ?_, sG _ _ lr12 (nD _ (fr (x3.trans (Same.x s4)) hlr rp)), SetS'.of prs srs mr, sG _ _ lt12 (nD _ (fr (x6.trans (Same.x s7)) hlt tp)), SetS'.of pts sts mw, sG _ _ lc12 (nD _ (fr (x9.trans (Same.x s10)) hlc cp)), SetI'.of pcs scs mc⟩
  have tG : DAt CD C (upd G p (.ins PC dx [])) a d := hD i a d ha hd _ fun b o e n => by
    by_cases hb : b = p
    · subst hb
      rw [upd_same, ← e, p3]
    · rw [upd_ne hb]
      exact sG b o (x12 b o e hb) n
  refine tG.sameX (fun b o e n => ?_) upd_same (ap i a d ha hd)
  rw [upd_ne n] at e
  exact e
end
end TS
namespace TS
open PySem L2
abbrev sIsIndex : Stmt := top 17
abbrev sPDelay : Stmt := (inClass (top 55) 13)
/-- a process with some of its deeds late -/
def ProcD.lateAt (p : ProcD) (f : Nat → Bool) : ProcD := { p with ds := p.ds.mapIdx fun i d => if f i = true then d.later else d }
theorem lateAt_len (p : ProcD) (f : Nat → Bool) : (p.lateAt f).ds.length = p.ds.length := List.length_mapIdx
theorem lateAt_get (p : ProcD) (f : Nat → Bool) (i : Nat) : (p.lateAt f).ds[i]? = (p.ds[i]?).map fun d => if f i = true then d.later else d := by
  show (p.ds.mapIdx _)[i]? = _
  rw [List.getElem?_mapIdx]
theorem lateAt_mem {p : ProcD} {f : Nat → Bool} {d : DeedD} (h : d ∈ (p.lateAt f).ds) : ∃ e ∈ p.ds, d.x = e.x ∧ d.t = e.t ∧ (e.l = true → d.l = true) := by
  obtain ⟨i, hi, rfl⟩ := List.getElem_of_mem h
  have h1 : (p.lateAt f).ds[i]? = some (p.lateAt f).ds[i] := List.getElem?_eq_getElem hi
  rw [lateAt_get] at h1
  cases e : p.ds[i]? with
  | none => rw [e] at h1; cases h1
  | some d0 =>
    rw [e] at h1
    have h1 : (if f i = true then d0.later else d0) = (p.lateAt f).ds[i] := Option.some.inj h1
    refine ⟨d0, List.mem_of_getElem? e, ?_⟩
    rw [← h1]
    split
    · exact ⟨rfl, rfl, fun _ => rfl⟩
    · exact ⟨rfl, rfl, id⟩
theorem lateAt_mem2 {p : ProcD} {f : Nat → Bool} {d : DeedD} (h : d ∈ p.ds) : ∃ e ∈ (p.lateAt f).ds, e.x = d.x ∧ e.t = d.t := by
  obtain ⟨i, hi, rfl⟩ := List.getElem_of_mem h
  have h1 : p.ds[i]? = some p.ds[i] := List.getElem?_eq_getElem hi
  have h2 := lateAt_get p f i
  rw [h1] at h2
  refine ⟨_, List.mem_of_getElem? h2, ?_⟩
  dsimp only
  split
  · exact ⟨rfl, rfl⟩
  · exact ⟨rfl, rfl⟩
theorem lateAt_read {p : ProcD} {f : Nat → Bool} {x : Str} : (p.lateAt f).read x ↔ p.read x := by
  constructor
  · rintro ⟨d, hd, hx⟩
    obtain ⟨e, he, _, h2, _⟩ := lateAt_mem hd
    exact ⟨e, he, h2 ▸ hx⟩
  · rintro ⟨d, hd, hx⟩
    obtain ⟨e, he, _, h2⟩ := lateAt_mem2 (f := f) hd
    exact ⟨e, he, h2.symm ▸ hx⟩
theorem lateAt_const {p : ProcD} {f : Nat → Bool} {n : Int} : (p.lateAt f).const n ↔ p.const n := by
  constructor
  · rintro ⟨d, hd, hx⟩
    obtain ⟨e, he, _, h2, _⟩ := lateAt_mem hd
    exact ⟨e, he, h2 ▸ hx⟩
  · rintro ⟨d, hd, hx⟩
    obtain ⟨e, he, _, h2⟩ := lateAt_mem2 (f := f) hd
    exact ⟨e, he, h2.symm ▸ hx⟩
theorem lateAt_written {p : ProcD} {f : Nat → Bool} {x : Str} : (p.lateAt f).written x ↔ p.written x := by
  constructor
  · rintro ⟨d, hd, hx⟩
    obtain ⟨e, he, h1, _, _⟩ := lateAt_mem hd
    exact ⟨e, he, hx.trans h1⟩
  · rintro ⟨d, hd, hx⟩
    obtain ⟨e, he, h1, _⟩ := lateAt_mem2 (f := f) hd
    exact ⟨e, he, hx.trans h1.symm⟩
theorem lateAt_ok {p : ProcD} {f : Nat → Bool} (h : p.Ok) : (p.lateAt f).Ok := by
  refine ⟨h.name, h.turn, h.w1, h.w4, h.wok, h.wnd, by rw [lateAt_len]; exact h.d1, by rw [lateAt_len]; exact h.d4, fun d hd => ?_, fun l a b => h.few l a fun x hx => lateAt_read.mp (b x hx), fun l a b => h.fewN l a fun x hx => lateAt_const.mp (b x hx)⟩
  obtain ⟨e, he, h1, h2, _⟩ := lateAt_mem hd
  have := h.dok e he
  exact ⟨h1 ▸ this.1, h2 ▸ this.2⟩
/-- a name that is none of a Deed's attributes -/
def noD (m : Str) : Bool := !(decide (m = "_variable") || decide (m = "_term") || decide (m = "_late") || decide (m = "_text"))
theorem dfs_no {m x : Str} {p : Addr} {l : Bool} {z : Str} (h : noD m = true) : (dfs x p l z).lookup m = none := by
  unfold noD at h
  simp only [Bool.not_eq_true', Bool.or_eq_false_iff, decide_eq_false_iff_not] at h
  obtain ⟨⟨⟨h1, h2⟩, h3⟩, h4⟩ := h
  unfold dfs
  rw [lookup_putF, if_neg h4, lookup_putF, if_neg h3, lookup_putF, if_neg h2, lookup_putF, if_neg h1]
  rfl
theorem pfs_ends {n n' : Str} {lw ld lr lt lc lw' ld' lr' lt' lc' : Addr} (h : pfs n lw ld lr lt lc = pfs n' lw' ld' lr' lt' lc') : lw = lw' ∧ ld = ld' := by
  have w1 := pfs_waits n lw ld lr lt lc
  rw [h, pfs_waits] at w1
  have d1 := pfs_deeds n lw ld lr lt lc
  rw [h, pfs_deeds] at d1
  injection w1 with w1
  injection w1 with w1
  injection d1 with d1
  injection d1 with d1
  exact ⟨w1.symm, d1.symm⟩
theorem POff.parts {PC CD C a : Addr} {Ds : List Addr} {H : Hp} {p : ProcD} (h : POff PC CD C Ds H a p) (hDs : Lists Ds H) : ∃ (dx lw ld lr lt lc : Addr) (as : List Addr), H a = some (.ins PC dx (pfs p.name lw ld lr lt lc)) ∧ H lw = some (.lst (p.waits.map V.str)) ∧ H ld = some (.lst (as.map V.ref)) ∧ as.length = p.ds.length ∧
    ∀ (i : Nat) b d, as[i]? = some b → p.ds[i]? = some d → DOff CD C Ds H b d := by
  obtain ⟨ok, dx, lw, ld, lr, lt, lc, as, rs, ts, cs, h1, h2, h3, h4, h5, _⟩ := h H (SameOff.refl _ _)
  have na : a ∉ Ds := no_list hDs h1 (fun _ z => by cases z)
  have nd : ld ∉ Ds := fun m => by
    have al : a ≠ ld := ne_of h1 h3 (by intro z; cases z)
    obtain ⟨ok', dx', lw', ld', lr', lt', lc', as', rs', ts', cs', g1, g2, g3, _⟩ := h (upd H ld (.tup [])) fun b o e n => by
      have bn : b ≠ ld := fun z => n (by rw [z]; exact m)
      rw [upd_ne bn]
      exact e
    rw [upd_ne al, h1] at g1
    have e2 : pfs p.name lw ld lr lt lc = pfs p.name lw' ld' lr' lt' lc' := by
      injection g1 with g1
      injection g1
    obtain ⟨_, rfl⟩ := pfs_ends e2
    rw [upd_same] at g3
    cases g3
  refine ⟨dx, lw, ld, lr, lt, lc, as, h1, h2, h3, h4, fun i b d hb hd G sG => ?_⟩
  obtain ⟨ok', dx', lw', ld', lr', lt', lc', as', rs', ts', cs', g1, g2, g3, g4, g5, _⟩ := h G sG
  rw [sG _ _ h1 na] at g1
  have e2 : pfs p.name lw ld lr lt lc = pfs p.name lw' ld' lr' lt' lc' := by
    injection g1 with g1
    injection g1
  obtain ⟨_, rfl⟩ := pfs_ends e2
  rw [sG _ _ h3 nd] at g3
  have ea : as = as' := by
    injection g3 with g3
    injection g3 with g3
    exact List.map_inj_right (f := V.ref) (fun _ _ e => V.ref.inj e) |>.mp g3
  subst ea
  exact g5 i b d hb hd
section
variable {P : Program} {w : World} {K : PySem.W.Frag} {mg : Str → Option Value} {base : Heap}
def spIsIndex (K : PySem.W.Frag) : Sp := fun vs H Q _ => ∃ (v : V) (m : Int), vs = [v, .int m] ∧ ((∃ i : Int, v = .int i ∧ Q (.bl (decide (0 ≤ i ∧ i < m))) H) ∨ (∃ (t : Value) (b c : Bool), TyX K H v t ∧ PySem.W.kitOne K t (.type "int") = some b ∧ PySem.W.kitOne K t (.type "bool") = some c ∧ (b && !c) = false ∧ Q (.bl false) H))
theorem scIsIndex : FnScope ["value", "many"] ["value", "many"] (defScope sIsIndex) := ⟨rfl, rfl, rfl, by decide +kernel, rfl, by decide +kernel, by decide +kernel⟩
theorem ok_isindex {f : Addr} {fd : FuncData} (F : Fun K "is_index" "is_index" sIsIndex f fd) (D1 : Has P w K mg base "is_number" 1 ["value"] (spNum K)) : FnOk P w K mg base CX0 2 f fd ["value", "many"] (spIsIndex K) := by
  obtain ⟨f1, fd1, m1, k1, b1, G1⟩ := D1
  refine F.ok scIsIndex (fun vs H Q E h => ?_) (fun cdv A outer s H vs Q E hr h => ?_)
  · obtain ⟨v, m, rfl, _⟩ := h
    rfl
  obtain ⟨v, m, rfl, h⟩ := h
  refine ⟨_, pss_one (ps_ret (pe_and (pe_call G1 hr rfl m1 k1 b1 .nil pass0 (pa_cons (pv 0) pa_nil)) (pe_one (pe_chain op_le op_lt pe_int (pv 0) (pv 1))))), ?_⟩
  rcases h with ⟨i, rfl, q⟩ | ⟨t, b, c, ty, kb, kc, e, q⟩
  · refine ⟨_, rfl, .int i, _, true, false, rfl, .base (.int i), kit_ty (by decide +kernel), kit_ty (by decide +kernel), _, rfl, iteT ?_⟩
    refine ⟨_, rfl, _, _, rfl, rfl, _, rfl, ?_⟩
    by_cases h0 : (0 : Int) ≤ i
    · rw [decide_eq_true h0]
      refine iteT ⟨_, rfl, _, _, rfl, rfl, ?_⟩
      have ee : decide (0 ≤ i ∧ i < m) = decide (i < m) := by simp [h0]
      rw [ee] at q
      exact q
    · rw [decide_eq_false h0]
      have ee : decide (0 ≤ i ∧ i < m) = false := by simp [h0]
      rw [ee] at q
      exact iteF q
  · refine ⟨_, rfl, v, t, b, c, rfl, ty, kb, kc, _, rfl, ?_⟩
    rw [e]
    exact iteF q
theorem flat_ints (ns : List Int) : (ns.map V.int).all flatV = true := by
  rw [List.all_map, List.all_eq_true]
  intro n _
  rfl
/-! Process.delayed, of right indices -/
def spPDelay (PC CD C : Addr) : Sp := fun vs H Q _ => ∃ (a t : Addr) (p : ProcD) (idx : List Int) (Ds : List Addr), vs = [.ref a, .ref t] ∧ H t = some (.tup (idx.map V.int)) ∧ Lists Ds H ∧ POff PC CD C Ds H a p ∧ (∀ i ∈ idx, 0 ≤ i ∧ i < p.ds.length) ∧
  ∀ H' b, Same H H' → POff PC CD C Ds H' b (p.lateAt fun i => decide ((i : Int) ∈ idx)) → Q (.ref b) H'
/-- the class Process, made by its __init__ -/
def HasProcM (P : Program) (w : World) (K : PySem.W.Frag) (mg : Str → Option Value) (base : Heap) (PC CD C : Addr) : Prop :=
  ∃ (f : Addr) (fd : FuncData), Mk K PC f ∧ Binds K fd ["self", "name", "waits", "deeds"] [] ∧ FnOk P w K mg base CX0 19 f fd ["self", "name", "waits", "deeds"] (spPInitM PC CD C)
abbrev nmPDelay : List Str := ["self", "indices", "index", "deeds", "at", "deed"]
theorem scPDelay : FnScope nmPDelay ["self", "indices"] (defScope sPDelay) := ⟨rfl, rfl, rfl, by decide +kernel, rfl, by decide +kernel, by decide +kernel⟩
theorem ok_pdelay {PC C CD f : Addr} {oc : Value} {od an : Option Addr} {osl : Array (Option Value)} {dV kV doc pm cdv ct : Value} (lk : K.lookup f = some ⟨oc, od, .func (PySem.W.fnOf "delayed" "Process.delayed" (defArgs sPDelay) (defBody sPDelay) (defScope sPDelay) dV kV doc pm an cdv ct), osl⟩) (hcd : PySem.W.codeIn K cdv "Process.delayed" = true)
    (hb : ∀ us rest : List Value, us.length = ["self"].length → bindArgs (PySem.W.fnOf "delayed" "Process.delayed" (defArgs sPDelay) (defBody sPDelay) (defScope sPDelay) dV kV doc pm an cdv ct) ⟨us ++ rest, []⟩ = (newTuple rest >>= fun t => pure ((["self"] : List Str).zip us ++ ([("indices", t)] : List (Str × Value)))))
    (T : BltT mg) (me : mg "enumerate" = none) (PT : ProcT K mg PC) (DK : DeedK K mg CD) (DI : Has P w K mg base "is_index" 2 ["value", "many"] (spIsIndex K)) (MD : HasM P w K mg base CD "delayed" 16 ["self"] (spDDelay CD C)) (HP : HasProcM P w K mg base PC CD C) :
    FnR P w K mg base CX0 21 f (fun vs H Q E => ∃ ws rest, vs = ws ++ rest ∧ ws.length = (["self"] : List Str).length ∧ rest.length ≤ sizeLine ∧ ∀ p, H p = Option.none → spPDelay PC CD C (ws ++ [V.ref p]) (upd H p (.tup rest)) Q E) := by
  obtain ⟨f1, fd1, m1, k1, b1, G1⟩ := DI
  obtain ⟨f2, fd2, h2, b2, G2⟩ := MD
  obtain ⟨f3, fd3, M3, b3, G3⟩ := HP
  refine StX.fn_star (sp := spPDelay PC CD C) (N := nmPDelay) lk hcd scPDelay (fun _ _ _ _ _ _ _ _ _ _ _ z => z) hb fun A outer s H vs Q E hr h => ?_
  obtain ⟨a, t, p, idx, Ds, rfl, ht, hDs, hp, hix, q⟩ := h
  have r2 : Room 2 _ := hr.mono (by decide)
  have r16 : Room 16 _ := hr.mono (by decide)
  suffices main : ∃ t', PSs (cxOf CX0 P w K mg base nmPDelay "Process.delayed" (defScope sPDelay) f cdv A outer s H E).nox (defBody sPDelay) t' ∧ t' { nx := fun _ H' => Q .non H', rt := Q } (start nmPDelay [.ref a, .ref t]) H by
    obtain ⟨t', h1, h2⟩ := main
    exact ⟨t', h1.nox, h2⟩
  refine ⟨_, pss_cons (ps_for PassesOwn.never rfl (pi_tup (pv 1)) (pg_name (i := 2) scPDelay.nd rfl (.inl rfl))
      (pss_one (ps_if (pt_not (pt_val (pe_call G1 r2 rfl m1 k1 b1 .nil pass0 (pa_cons (pv 2) (pa_cons (pe_callB call_len_seq (by rfl) T.len PySem.boot_len (pa_cons (pe_fld (pv 0) rfl) pa_nil)) pa_nil))))) (pss_one ps_dead) pss_nil)))
    (pss_cons (ps_setLc (i := 3) (own := [("at", 4), ("deed", 5)]) (g := gTup K 2 (gCons (gName 4) (gCons (gName 5) gNil))) (tt := tYes) (te := tIf (tTest (tOp (rIn K false) (tVar 4) (tVar 1))) (tMeth CD "delayed" (spDDelay CD C) [] E0 (tVar 5) tNil) (tVar 5)) (by rfl) scPDelay.nd rfl rfl (sw_true rfl rfl rfl (by decide +kernel)) (pi_enum rfl me (pa_cons (pe_fld (pv 0) rfl) pa_nil)) (blkOk_by (own := [("at", 4), ("deed", 5)]) (N := nmPDelay) (sc := defScope sPDelay) (by decide +kernel)) (fun _ _ _ _ _ => pg_tup (by rfl) (pgs_cons (pg_name (i := 4) scPDelay.nd rfl (Or.inl rfl)) (pgs_cons (pg_name (i := 5) scPDelay.nd rfl (Or.inl rfl)) pgs_nil))) (fun _ _ _ _ _ => pts_nil)
      (fun _ _ _ _ _ => pe_ifExp (pt_cmpR op_in_seq (pv 4) (pv 1) (by rfl)) (pe_meth0 (pv 5) DK.cl h2 G2 r16 b2 .nil pass0) (pv 5)))
    (pss_one (ps_ret (pe_make M3 G3 hr rfl PT.mgC b3 .nil pass0 (pa_cons (pe_fld (pv 0) rfl) (pa_cons (pe_fld (pv 0) rfl) (pa_cons (pv 3) pa_nil))))))), ?_⟩
  obtain ⟨dx, lw, ld, lr, lt, lc, as, h1, hlw, h3, h4, h5⟩ := hp.parts hDs
  have ok := (hp H (SameOff.refl _ _)).ok
  have d4 := ok.d4
  refine ⟨_, rfl, t, rfl, ⟨_, SqT.of ht⟩, for_tup (K := K) (xs := idx.map V.int) (fun i σ H' => H' = H ∧ ∃ e2 : Option V, σ = [some (.ref a), some (.ref t), e2, none, none, none]) ⟨rfl, none, rfl⟩ (fun i σ H' _ z => ?_) (fun i x σ H' hx z => ?_) (fun σ H' z => ?_)⟩
  · obtain ⟨rfl, _⟩ := z
    exact SqT.of ht
  · obtain ⟨rfl, e2, rfl⟩ := z
    obtain ⟨n, hn, rfl⟩ := map_at hx
    obtain ⟨n0, n1⟩ := hix n (List.mem_of_getElem? hn)
    refine ⟨_, rfl, _, rfl, a, PC, dx, _, _, rfl, h1, PT.cl, PT.n3, pfs_deeds _ _ _ _ _ _, ld, _, rfl, .inl (SqL.of h3), .int n, _, rfl, .inl ⟨n, rfl, _, rfl, ?_⟩⟩
    rw [decide_eq_true (show 0 ≤ n ∧ n < (((as.map V.ref).length : Nat) : Int) by rw [List.length_map, h4]; exact ⟨n0, n1⟩)]
    exact iteF ⟨rfl, _, rfl⟩
  obtain ⟨rfl, e2, rfl⟩ := z
  refine ⟨_, rfl, a, PC, dx, _, _, rfl, h1, PT.cl, PT.n3, pfs_deeds _ _ _ _ _ _, ld, _, rfl, SqL.of h3, fun D hD => ?_⟩
  refine lc_it (walk_enum (K := K) (a := ld) (xs := as.map V.ref)) (fun i G => Same H' G ∧ ∃ bs : List Addr, G D = some (.lst (bs.map V.ref)) ∧ bs.length = i ∧ ∀ (j : Nat) b d, bs[j]? = some b → p.ds[j]? = some d → DOff CD C (D :: Ds) G b (if decide ((j : Int) ∈ idx) = true then d.later else d)) ⟨same_upd hD _, [], upd_same, rfl, fun j b d x => by simp at x⟩ (fun i G _ z => SqL.of (z.1 _ _ h3)) (fun i x G G' hi z hy => ?_) (fun G z => ?_)
  · obtain ⟨sG, bs, hbs, lb, hB⟩ := z
    obtain ⟨Tp, xi, y, rfl, nT, rfl, exi, hyy⟩ := hy
    cases exi
    obtain ⟨b, hb, rfl⟩ := map_at hyy
    have hi' : i < p.ds.length := by rw [List.length_map] at hi; omega
    have hd : p.ds[i]? = some p.ds[i] := List.getElem?_eq_getElem hi'
    have ho := h5 i b _ hb hd
    generalize p.ds[i] = d at hd ho
    have g1 : Same G (upd G Tp (.tup [.int (i : Nat), .ref b])) := same_upd nT _
    have t1 : (upd G Tp (.tup [.int (i : Nat), .ref b])) Tp = some (.tup [.int (i : Nat), .ref b]) := upd_same
    have s1 := sG.trans g1
    have fin : ∀ (H4 : Hp) (c : Addr), Same (upd G Tp (.tup [.int (i : Nat), .ref b])) H4 → DOff CD C (D :: Ds) H4 c (if decide ((i : Int) ∈ idx) = true then d.later else d) → ∃ acc, H4 D = some (.lst acc) ∧ acc.length < sizeLine ∧
        (Same H' (upd H4 D (.lst (acc ++ [.ref c]))) ∧ ∃ bs : List Addr, (upd H4 D (.lst (acc ++ [.ref c]))) D = some (.lst (bs.map V.ref)) ∧ bs.length = i + 1 ∧ ∀ (j : Nat) b d, bs[j]? = some b → p.ds[j]? = some d → DOff CD C (D :: Ds) (upd H4 D (.lst (acc ++ [.ref c]))) b (if decide ((j : Int) ∈ idx) = true then d.later else d)) := fun H4 c s4 hc => by
      have o4 : SameOff (D :: Ds) H4 (upd H4 D (.lst (bs.map V.ref ++ [.ref c]))) := fun b o e n => by
        rw [upd_ne (fun z => n (by simp [z]))]
        exact e
      refine ⟨_, s4 _ _ (g1 _ _ hbs), small1000 (by rw [List.length_map]; omega), fun b o e => ?_, bs ++ [c], by rw [upd_same, List.map_append]; rfl, by simp [lb], fun j b' d' hb' hd' => ?_⟩
      · rw [upd_ne (ne_of_none e hD)]
        exact s4 _ _ (s1 _ _ e)
      · rcases snoc_at hb' with hb' | ⟨ej, rfl⟩
        · exact (hB j b' d' hb' hd').off ((Same.off (g1.trans s4)).trans o4)
        · rw [lb] at ej
          subst ej
          rw [hd] at hd'
          cases hd'
          exact hc.off o4
    refine ⟨Tp, _, rfl, SqT.of t1, rfl, _, _, rfl, _, _, rfl, rfl, rfl, ?_⟩
    unfold tYes
    dsimp only
    rw [if_pos rfl]
    refine ⟨_, rfl, _, rfl, t, _, rfl, .inr (SqT.of (s1 _ _ ht)), rfl, flat_int _, _, rfl, ?_⟩
    rw [if_neg Bool.false_ne_true, inV_int]
    have ho1 : DOff CD C (D :: Ds) (upd G Tp (.tup [.int (i : Nat), .ref b])) b d := ho.grow hD (Same.off s1)
    by_cases c : (i : Int) ∈ idx
    · rw [decide_eq_true c] at fin ⊢
      obtain ⟨_, dxb, pb, hinb, _⟩ := id ho1.now
      refine iteT ⟨_, rfl, b, dxb, _, rfl, hinb, dfs_no (by decide +kernel), b, d, rfl, ho1.now, fun H4 c4 s4 nc hT => fin H4 c4 s4 ?_⟩
      rw [if_pos rfl]
      exact hT (D :: Ds) (lists_cons (fun c m => by rw [List.mem_singleton.mp m]; exact ⟨_, g1 _ _ hbs⟩) (lists_same hDs s1))
    · rw [decide_eq_false c] at fin ⊢
      refine iteF ⟨_, rfl, fin _ b (Same.refl _) ?_⟩
      rw [if_neg Bool.false_ne_true]
      exact ho1
  · obtain ⟨sG, bs, hbs, lb, hB⟩ := z
    rw [List.length_map] at lb
    refine ⟨_, rfl, a, PC, dx, _, _, rfl, sG _ _ h1, PT.cl, PT.n1, pfs_name _ _ _ _ _ _, _, rfl, a, PC, dx, _, _, rfl, sG _ _ h1, PT.cl, PT.n2, pfs_waits _ _ _ _ _ _, _, rfl, ?_⟩
    intro b dxb nb ndb ne
    have s0 : Same G (upd (upd G dxb (.own b)) b (.ins PC dxb [])) := fun c o e => by
      rw [upd_ne (ne_of_none e nb), upd_ne (ne_of_none e ndb)]
      exact e
    refine ⟨b, dxb, lw, D, p.lateAt fun i => decide ((i : Int) ∈ idx), bs.map V.ref, Ds, rfl, upd_same, lateAt_ok ok, s0 _ _ (sG _ _ hlw), s0 _ _ hbs, lists_same hDs (sG.trans s0), by rw [List.length_map, lateAt_len]; omega, fun i v d hv hd => ?_, fun H2 sx hP => ⟨rfl, q H2 b (fun c o e => sx c o (s0 c o (sG c o e)) (ne_of_none (sG c o e) nb)) hP⟩⟩
    obtain ⟨c, hc, rfl⟩ := map_at hv
    rw [lateAt_get] at hd
    cases e : p.ds[i]? with
    | none => rw [e] at hd; cases hd
    | some d0 =>
      rw [e] at hd
      cases hd
      exact .inr ⟨c, rfl, (hB i c d0 hc e).less.off (Same.off s0)⟩
end
end TS
namespace TS
open PySem L2
abbrev sGNames : Stmt := (inClass (top 100) 7)
abbrev sGInputs : Stmt := (inClass (top 100) 9)
abbrev sGVars : Stmt := (inClass (top 100) 10)
abbrev sGCons : Stmt := (inClass (top 100) 11)
abbrev sGPlaces : Stmt := (inClass (top 100) 14)
abbrev sGLen : Stmt := (inClass (top 100) 2)
abbrev sGIn : Stmt := (inClass (top 100) 5)
theorem gfs_processes (lp ln lb li lv lc lq : Addr) : (gfs lp ln lb li lv lc lq).lookup ("_processes" : Str) = some (.ref lp) := by
  unfold gfs
  rw [lookup_putF, if_neg (by decide +kernel)]
  rw [lookup_putF, if_neg (by decide +kernel)]
  rw [lookup_putF, if_neg (by decide +kernel)]
  rw [lookup_putF, if_neg (by decide +kernel)]
  rw [lookup_putF, if_neg (by decide +kernel)]
  rw [lookup_putF, if_neg (by decide +kernel)]
  rw [lookup_putF, if_pos rfl]
theorem gfs_names (lp ln lb li lv lc lq : Addr) : (gfs lp ln lb li lv lc lq).lookup ("_names" : Str) = some (.ref ln) := by
  unfold gfs
  rw [lookup_putF, if_neg (by decide +kernel)]
  rw [lookup_putF, if_neg (by decide +kernel)]
  rw [lookup_putF, if_neg (by decide +kernel)]
  rw [lookup_putF, if_neg (by decide +kernel)]
  rw [lookup_putF, if_neg (by decide +kernel)]
  rw [lookup_putF, if_pos rfl]
theorem gfs_by_name (lp ln lb li lv lc lq : Addr) : (gfs lp ln lb li lv lc lq).lookup ("_by_name" : Str) = some (.ref lb) := by
  unfold gfs
  rw [lookup_putF, if_neg (by decide +kernel)]
  rw [lookup_putF, if_neg (by decide +kernel)]
  rw [lookup_putF, if_neg (by decide +kernel)]
  rw [lookup_putF, if_neg (by decide +kernel)]
  rw [lookup_putF, if_pos rfl]
theorem gfs_inputs (lp ln lb li lv lc lq : Addr) : (gfs lp ln lb li lv lc lq).lookup ("_inputs" : Str) = some (.ref li) := by
  unfold gfs
  rw [lookup_putF, if_neg (by decide +kernel)]
  rw [lookup_putF, if_neg (by decide +kernel)]
  rw [lookup_putF, if_neg (by decide +kernel)]
  rw [lookup_putF, if_pos rfl]
theorem gfs_variables (lp ln lb li lv lc lq : Addr) : (gfs lp ln lb li lv lc lq).lookup ("_variables" : Str) = some (.ref lv) := by
  unfold gfs
  rw [lookup_putF, if_neg (by decide +kernel)]
  rw [lookup_putF, if_neg (by decide +kernel)]
  rw [lookup_putF, if_pos rfl]
theorem gfs_constants (lp ln lb li lv lc lq : Addr) : (gfs lp ln lb li lv lc lq).lookup ("_constants" : Str) = some (.ref lc) := by
  unfold gfs
  rw [lookup_putF, if_neg (by decide +kernel)]
  rw [lookup_putF, if_pos rfl]
theorem gfs_places (lp ln lb li lv lc lq : Addr) : (gfs lp ln lb li lv lc lq).lookup ("_places" : Str) = some (.ref lq) := by
  unfold gfs
  rw [lookup_putF, if_pos rfl]
/-- a name that is none of a Program's attributes -/
def noG (m : Str) : Bool := !(decide (m = "_processes") || decide (m = "_names") || decide (m = "_by_name") || decide (m = "_inputs") || decide (m = "_variables") || decide (m = "_constants") || decide (m = "_places"))
theorem gfs_no {m : Str} {lp ln lb li lv lc lq : Addr} (h : noG m = true) : (gfs lp ln lb li lv lc lq).lookup m = none := by
  unfold noG at h
  simp only [Bool.not_eq_true', Bool.or_eq_false_iff, decide_eq_false_iff_not] at h
  obtain ⟨⟨⟨⟨⟨⟨h1, h2⟩, h3⟩, h4⟩, h5⟩, h6⟩, h7⟩ := h
  unfold gfs
  rw [lookup_putF, if_neg h7, lookup_putF, if_neg h6, lookup_putF, if_neg h5, lookup_putF, if_neg h4, lookup_putF, if_neg h3, lookup_putF, if_neg h2, lookup_putF, if_neg h1]
  rfl
theorem ProgF.same {PR a : Addr} {H H' : Hp} {as : List Addr} {ps : List ProcD} {ins : List Str} (h : ProgF PR H a as ps ins) (s : Same H H') : ProgF PR H' a as ps ins := by
  obtain ⟨dx, lp, ln, lb, li, lv, lc, lq, vs, cs, ys, h1, h2, h3, h4, h5, h6, h7, h8, h9, h10, h11⟩ := h
  exact ⟨dx, lp, ln, lb, li, lv, lc, lq, vs, cs, ys, s _ _ h1, s _ _ h2, s _ _ h3, s _ _ h4, s _ _ h5, s _ _ h6, h7, s _ _ h8, h9, s _ _ h10, h11.imp fun v x h => h.same s⟩
section
variable {P : Program} {w : World} {K : PySem.W.Frag} {mg : Str → Option Value} {base : Heap}
def spGNames (PR : Addr) : Sp := fun vs H Q _ => ∃ (a : Addr) (as : List Addr) (ps : List ProcD) (ins : List Str), vs = [.ref a] ∧ ProgF PR H a as ps ins ∧ ∀ l, H l = none → Q (.ref l) (upd H l (.lst ((ps.map (·.name)).map V.str)))
theorem scGNames : FnScope ["self"] ["self"] (defScope sGNames) := ⟨rfl, rfl, rfl, by decide +kernel, rfl, by decide +kernel, by decide +kernel⟩
theorem ok_gnames {PR f : Addr} {fd : FuncData} (F : Fun K "names" "Program.names" sGNames f fd) (ml : mg "list" = none) (GK : ProgK K mg PR) : FnOk P w K mg base CX0 1 f fd ["self"] (spGNames PR) := by
  refine F.ok scGNames (fun vs H Q E h => ?_) (fun cdv A outer s H vs Q E hr h => ?_)
  · obtain ⟨a, as, ps, ins, rfl, _⟩ := h
    rfl
  obtain ⟨a, as, ps, ins, rfl, hp, q⟩ := h
  obtain ⟨dx, lp, ln, lb, li, lv, lc, lq, vs, cs, ys, h1, h2, h3, h4, h5, h6, h7, h8, h9, h10, h11⟩ := hp
  refine ⟨_, pss_one (ps_ret (pe_callTy call_list_of (by rfl) ml (by decide +kernel) (pa_cons (pe_fld (pv 0) rfl) pa_nil))), ?_⟩
  exact ⟨_, rfl, a, PR, dx, _, _, rfl, h1, GK.cl, GK.n2, gfs_names _ _ _ _ _ _ _, ln, _, rfl, .inl (SqL.of h3), q⟩
def spGInputs (PR : Addr) : Sp := fun vs H Q _ => ∃ (a : Addr) (as : List Addr) (ps : List ProcD) (ins : List Str), vs = [.ref a] ∧ ProgF PR H a as ps ins ∧ ∀ l, H l = none → Q (.ref l) (upd H l (.lst (ins.map V.str)))
theorem scGInputs : FnScope ["self"] ["self"] (defScope sGInputs) := ⟨rfl, rfl, rfl, by decide +kernel, rfl, by decide +kernel, by decide +kernel⟩
theorem ok_ginputs {PR f : Addr} {fd : FuncData} (F : Fun K "inputs" "Program.inputs" sGInputs f fd) (ml : mg "list" = none) (GK : ProgK K mg PR) : FnOk P w K mg base CX0 1 f fd ["self"] (spGInputs PR) := by
  refine F.ok scGInputs (fun vs H Q E h => ?_) (fun cdv A outer s H vs Q E hr h => ?_)
  · obtain ⟨a, as, ps, ins, rfl, _⟩ := h
    rfl
  obtain ⟨a, as, ps, ins, rfl, hp, q⟩ := h
  obtain ⟨dx, lp, ln, lb, li, lv, lc, lq, vs, cs, ys, h1, h2, h3, h4, h5, h6, h7, h8, h9, h10, h11⟩ := hp
  refine ⟨_, pss_one (ps_ret (pe_callTy call_list_of (by rfl) ml (by decide +kernel) (pa_cons (pe_fld (pv 0) rfl) pa_nil))), ?_⟩
  exact ⟨_, rfl, a, PR, dx, _, _, rfl, h1, GK.cl, GK.n4, gfs_inputs _ _ _ _ _ _ _, li, _, rfl, .inl (SqL.of h5), q⟩
def spGVars (PR : Addr) : Sp := fun vs H Q _ => ∃ (a : Addr) (as : List Addr) (ps : List ProcD) (ins : List Str), vs = [.ref a] ∧ ProgF PR H a as ps ins ∧ ∀ (l : Addr) (vs : List Str), H l = none → SetS' vs (VarOf ps ins) → Q (.ref l) (upd H l (.lst (vs.map V.str)))
theorem scGVars : FnScope ["self"] ["self"] (defScope sGVars) := ⟨rfl, rfl, rfl, by decide +kernel, rfl, by decide +kernel, by decide +kernel⟩
theorem ok_gvars {PR f : Addr} {fd : FuncData} (F : Fun K "variables" "Program.variables" sGVars f fd) (ml : mg "list" = none) (GK : ProgK K mg PR) : FnOk P w K mg base CX0 1 f fd ["self"] (spGVars PR) := by
  refine F.ok scGVars (fun vs H Q E h => ?_) (fun cdv A outer s H vs Q E hr h => ?_)
  · obtain ⟨a, as, ps, ins, rfl, _⟩ := h
    rfl
  obtain ⟨a, as, ps, ins, rfl, hp, q⟩ := h
  obtain ⟨dx, lp, ln, lb, li, lv, lc, lq, vs, cs, ys, h1, h2, h3, h4, h5, h6, h7, h8, h9, h10, h11⟩ := hp
  refine ⟨_, pss_one (ps_ret (pe_callTy call_list_of (by rfl) ml (by decide +kernel) (pa_cons (pe_fld (pv 0) rfl) pa_nil))), ?_⟩
  exact ⟨_, rfl, a, PR, dx, _, _, rfl, h1, GK.cl, GK.n5, gfs_variables _ _ _ _ _ _ _, lv, _, rfl, .inl (SqL.of h6), fun l hl => q l vs hl h7⟩
def spGCons (PR : Addr) : Sp := fun vs H Q _ => ∃ (a : Addr) (as : List Addr) (ps : List ProcD) (ins : List Str), vs = [.ref a] ∧ ProgF PR H a as ps ins ∧ ∀ (l : Addr) (cs : List Int), H l = none → SetI' cs (ConOf ps) → Q (.ref l) (upd H l (.lst (cs.map V.int)))
theorem scGCons : FnScope ["self"] ["self"] (defScope sGCons) := ⟨rfl, rfl, rfl, by decide +kernel, rfl, by decide +kernel, by decide +kernel⟩
theorem ok_gcons {PR f : Addr} {fd : FuncData} (F : Fun K "constants" "Program.constants" sGCons f fd) (ml : mg "list" = none) (GK : ProgK K mg PR) : FnOk P w K mg base CX0 1 f fd ["self"] (spGCons PR) := by
  refine F.ok scGCons (fun vs H Q E h => ?_) (fun cdv A outer s H vs Q E hr h => ?_)
  · obtain ⟨a, as, ps, ins, rfl, _⟩ := h
    rfl
  obtain ⟨a, as, ps, ins, rfl, hp, q⟩ := h
  obtain ⟨dx, lp, ln, lb, li, lv, lc, lq, vs, cs, ys, h1, h2, h3, h4, h5, h6, h7, h8, h9, h10, h11⟩ := hp
  refine ⟨_, pss_one (ps_ret (pe_callTy call_list_of (by rfl) ml (by decide +kernel) (pa_cons (pe_fld (pv 0) rfl) pa_nil))), ?_⟩
  exact ⟨_, rfl, a, PR, dx, _, _, rfl, h1, GK.cl, GK.n6, gfs_constants _ _ _ _ _ _ _, lc, _, rfl, .inl (SqL.of h8), fun l hl => q l cs hl h9⟩
def spGPlaces (PR : Addr) : Sp := fun vs H Q _ => ∃ (a : Addr) (as : List Addr) (ps : List ProcD) (ins : List Str), vs = [.ref a] ∧ ProgF PR H a as ps ins ∧ ∀ (l : Addr) (ys : List V), H l = none → Each PlV H ys (placesE ps) → Q (.ref l) (upd H l (.lst ys))
theorem scGPlaces : FnScope ["self"] ["self"] (defScope sGPlaces) := ⟨rfl, rfl, rfl, by decide +kernel, rfl, by decide +kernel, by decide +kernel⟩
theorem ok_gplaces {PR f : Addr} {fd : FuncData} (F : Fun K "places" "Program.places" sGPlaces f fd) (ml : mg "list" = none) (GK : ProgK K mg PR) : FnOk P w K mg base CX0 1 f fd ["self"] (spGPlaces PR) := by
  refine F.ok scGPlaces (fun vs H Q E h => ?_) (fun cdv A outer s H vs Q E hr h => ?_)
  · obtain ⟨a, as, ps, ins, rfl, _⟩ := h
    rfl
  obtain ⟨a, as, ps, ins, rfl, hp, q⟩ := h
  obtain ⟨dx, lp, ln, lb, li, lv, lc, lq, vs, cs, ys, h1, h2, h3, h4, h5, h6, h7, h8, h9, h10, h11⟩ := hp
  refine ⟨_, pss_one (ps_ret (pe_callTy call_list_of (by rfl) ml (by decide +kernel) (pa_cons (pe_fld (pv 0) rfl) pa_nil))), ?_⟩
  exact ⟨_, rfl, a, PR, dx, _, _, rfl, h1, GK.cl, GK.n7, gfs_places _ _ _ _ _ _ _, lq, _, rfl, .inl (SqL.of h10), fun l hl => q l ys hl h11⟩
def spGLen (PR : Addr) : Sp := fun vs H Q _ => ∃ (a : Addr) (as : List Addr) (ps : List ProcD) (ins : List Str), vs = [.ref a] ∧ ProgF PR H a as ps ins ∧ Q (.int as.length) H
theorem scGLen : FnScope ["self"] ["self"] (defScope sGLen) := ⟨rfl, rfl, rfl, by decide +kernel, rfl, by decide +kernel, by decide +kernel⟩
theorem ok_glen {PR f : Addr} {fd : FuncData} (F : Fun K "__len__" "Program.__len__" sGLen f fd) (T : BltT mg) (GK : ProgK K mg PR) : FnOk P w K mg base CX0 1 f fd ["self"] (spGLen PR) := by
  refine F.ok scGLen (fun vs H Q E h => ?_) (fun cdv A outer s H vs Q E hr h => ?_)
  · obtain ⟨a, as, ps, ins, rfl, _⟩ := h
    rfl
  obtain ⟨a, as, ps, ins, rfl, hp, q⟩ := h
  obtain ⟨dx, lp, ln, lb, li, lv, lc, lq, vs, cs, ys, h1, h2, h3, h4, h5, h6, h7, h8, h9, h10, h11⟩ := hp
  refine ⟨_, pss_one (ps_ret (pe_callB call_len_seq (by rfl) T.len PySem.boot_len (pa_cons (pe_fld (pv 0) rfl) pa_nil))), ?_⟩
  refine ⟨_, rfl, a, PR, dx, _, _, rfl, h1, GK.cl, GK.n1, gfs_processes _ _ _ _ _ _ _, lp, _, rfl, .inl (SqL.of h2), ?_⟩
  rw [List.length_map]
  exact q
/-! __contains__, of a text -/
def spGIn (PR : Addr) : Sp := fun vs H Q _ => ∃ (a : Addr) (as : List Addr) (ps : List ProcD) (ins : List Str) (x : Str), vs = [.ref a, .str x] ∧ ProgF PR H a as ps ins ∧ Q (.bl (decide (x ∈ ps.map (·.name)))) H
theorem scGIn : FnScope ["self", "value"] ["self", "value"] (defScope sGIn) := ⟨rfl, rfl, rfl, by decide +kernel, rfl, by decide +kernel, by decide +kernel⟩
theorem ok_gin {PR f : Addr} {fd : FuncData} (F : Fun K "__contains__" "Program.__contains__" sGIn f fd) (T : BltT mg) (GK : ProgK K mg PR) : FnOk P w K mg base CX0 1 f fd ["self", "value"] (spGIn PR) := by
  refine F.ok scGIn (fun vs H Q E h => ?_) (fun cdv A outer s H vs Q E hr h => ?_)
  · obtain ⟨a, as, ps, ins, x, rfl, _⟩ := h
    rfl
  obtain ⟨a, as, ps, ins, x, rfl, hp, q⟩ := h
  obtain ⟨dx, lp, ln, lb, li, lv, lc, lq, vs, cs, ys, h1, h2, h3, h4, h5, h6, h7, h8, h9, h10, h11⟩ := hp
  refine ⟨_, pss_one (ps_ret (pe_and (pe_callB call_isi (by rfl) T.isi bIsi (pa_cons (pv 1) (pa_cons (pe_bltn (by rfl) T.str (v := .ty "str") (by decide +kernel) rfl) pa_nil))) (pe_one (pe_cmpR op_in_seq (pv 1) (pe_fld (pv 0) rfl) (by rfl))))), ?_⟩
  refine ⟨_, rfl, _, _, _, _, _, rfl, .ty "str", .base (.str x), kit_ty (r := true) (by decide +kernel), _, rfl, iteT ?_⟩
  refine ⟨_, rfl, _, rfl, a, PR, dx, _, _, rfl, h1, GK.cl, GK.n2, gfs_names _ _ _ _ _ _ _, ln, _, rfl, .inl (SqL.of h3), rfl, flat_strs _, ?_⟩
  rw [inV_mem]
  exact q
end
end TS
namespace TS
open PySem L2
abbrev sGEq : Stmt := (inClass (top 100) 1)
section
variable {P : Program} {w : World} {K : PySem.W.Frag} {mg : Str → Option Value} {base : Heap}
/-! Program.__eq__ -/
structure ProgT (K : PySem.W.Frag) (mg : Str → Option Value) (PR : Addr) : Prop extends ProgK K mg PR where
  ha : PySem.W.findIn K (.ref PR) "__class__" = some (some (.builtin "object.__class__"))
  hn : PySem.W.specialIn K (.builtin "object.__class__") "__get__" = some (some (.builtin "getset_descriptor.__get__"))
  htk : PySem.W.takesIn K (.builtin "object.__class__") = some true
  hm : PySem.W.mroIn K PR (.type "object") = some true
  kG : PySem.W.kitOne K (.ref PR) (.ref PR) = some true
theorem ProgT.ty {PR a dx : Addr} {H : Hp} {fs : List (Str × V)} (T : ProgT K mg PR) (h : H a = some (.ins PR dx fs)) : TyX K H (.ref a) (.ref PR) := .base (.ins h T.cl T.ha T.hn T.htk T.hm)
/-- what tells a Program from others -/
def gkey (ps : List ProcD) (ins : List Str) : List (Str × List Str × List Str) × List Str := (ps.map ProcD.key, ins)
def RProg (PR PC CD C : Addr) (a b : Addr) (k : Bool) (H : Hp) : Prop := ∃ ps ins qs jns, ProgAt PR PC CD C H a ps ins ∧ ProgAt PR PC CD C H b qs jns ∧ (∀ x ∈ ins, Plain x) ∧ (∀ x ∈ jns, Plain x) ∧ k = decide (gkey ps ins = gkey qs jns)
theorem scGEq : FnScope ["self", "other"] ["self", "other"] (defScope sGEq) := ⟨rfl, rfl, rfl, by decide +kernel, rfl, by decide +kernel, by decide +kernel⟩
theorem gkey_dec (ps qs : List ProcD) (ins jns : List Str) : decide (gkey ps ins = gkey qs jns) = (decide (ps.map ProcD.key = qs.map ProcD.key) && decide (ins = jns)) := by
  unfold gkey
  by_cases h1 : ps.map ProcD.key = qs.map ProcD.key <;> by_cases h2 : ins = jns <;> simp [h1, h2]
theorem ok_geq {PR PC C CD f : Addr} {fd : FuncData} (F : Fun K "__eq__" "Program.__eq__" sGEq f fd) (T : BltT mg) (GT : ProgT K mg PR) (HP : HasEq P w K mg base PC 3 (spEqB (RProc PC CD C))) : FnOk P w K mg base CX0 5 f fd ["self", "other"] (spEqB (RProg PR PC CD C)) := by
  obtain ⟨f1, fd1, h1, i1, b1, G1⟩ := HP
  refine F.ok scGEq (fun vs H Q E h => ?_) (fun cdv A outer s H vs Q E hr h => ?_)
  · obtain ⟨a, b, k, rfl, _⟩ := h
    rfl
  obtain ⟨a, b, k, rfl, ⟨ps, ins, qs, jns, hd, he, pi, pj, rfl⟩, q⟩ := h
  refine ⟨_, pss_cons (ps_if (pt_not (pt_val (pe_callB call_isi (by rfl) T.isi bIsi (pa_cons (pv 1) (pa_cons (pe_glob rfl GT.mgC (show RelV (.ref PR) (.ref PR) from rfl)) pa_nil))))) (pss_one (ps_ret pe_bl)) pss_nil)
    (pss_one (ps_ret (pe_and (pe_cmpR (op_eqB (rcB_list (eqB_ins G1 h1 i1 b1 pass0)) hr) (pe_fld (pv 0) rfl) (pe_fld (pv 1) rfl) (nomark _))
      (pe_one (pe_cmpR (op_eqD hr.units) (pe_fld (pv 0) rfl) (pe_fld (pv 1) rfl) (nomark _)))))), ?_⟩
  obtain ⟨as, ⟨dx, lp, ln, lb, li, lv, lc, lq, vs, cs, ys, a1, a2, a3, a4, a5, _⟩, la, hA⟩ := hd
  obtain ⟨bs, ⟨dx', lp', ln', lb', li', lv', lc', lq', vs', cs', ys', e1, e2, e3, e4, e5, _⟩, lb2, hB⟩ := he
  refine ⟨_, rfl, _, _, _, _, _, rfl, .own PR, GT.ty e1, GT.kG, _, rfl, iteF ?_⟩
  refine ⟨_, rfl, a, PR, dx, _, _, rfl, a1, GT.cl, GT.n1, gfs_processes _ _ _ _ _ _ _, _, rfl, b, PR, dx', _, _, rfl, e1, GT.cl, GT.n1, gfs_processes _ _ _ _ _ _ _, _, procs_B a2 e2 la lb2 hA hB, _, rfl, ?_⟩
  rw [gkey_dec] at q
  by_cases n : ps.map ProcD.key = qs.map ProcD.key
  · rw [decide_eq_true n] at q ⊢
    rw [Bool.true_and] at q
    exact iteT ⟨_, rfl, a, PR, dx, _, _, rfl, a1, GT.cl, GT.n4, gfs_inputs _ _ _ _ _ _ _, _, rfl, b, PR, dx', _, _, rfl, e1, GT.cl, GT.n4, gfs_inputs _ _ _ _ _ _ _, words_eqD a5 e5 pi pj q⟩
  · rw [decide_eq_false n] at q ⊢
    exact iteF q
end
end TS
namespace TS
open PySem L2
/-- a process with its deeds at these places late -/
def lateIn (pls : List (Str × Nat)) (p : ProcD) : ProcD := p.lateAt fun i => decide ((p.name, i) ∈ pls)
theorem lateIn_name (pls : List (Str × Nat)) (p : ProcD) : (lateIn pls p).name = p.name := rfl
theorem placesD_late (nm : Str) (pls : List (Str × Nat)) : ∀ (l : List DeedD) (j : Nat) (f : Nat → Bool), (∀ i, f i = decide ((nm, j + i) ∈ pls)) →
    placesD nm j (l.mapIdx fun i d => if f i = true then d.later else d) = (placesD nm j l).filter fun x => decide (x ∉ pls)
  | [], j, f, _ => rfl
  | e :: r, j, f, hf => by
    have ih := placesD_late nm pls r (j + 1) (fun i => f (i + 1)) fun i => by rw [hf, show j + (i + 1) = j + 1 + i by omega]
    rw [List.mapIdx_cons]
    show (if (if f 0 = true then e.later else e).l = true then placesD nm (j + 1) (r.mapIdx fun i d => if f (i + 1) = true then d.later else d) else (nm, j) :: placesD nm (j + 1) (r.mapIdx fun i d => if f (i + 1) = true then d.later else d)) = (if e.l = true then placesD nm (j + 1) r else (nm, j) :: placesD nm (j + 1) r).filter _
    rw [ih]
    have h0 : f 0 = decide ((nm, j) ∈ pls) := hf 0
    cases hl : e.l with
    | true =>
      have h1 : (if f 0 = true then e.later else e).l = true := by
        split
        · rfl
        · exact hl
      rw [if_pos h1, if_pos rfl]
    | false =>
      by_cases c : (nm, j) ∈ pls
      · have h1 : (if f 0 = true then e.later else e).l = true := by
          rw [h0, decide_eq_true c, if_pos rfl]
          rfl
        rw [if_pos h1, if_neg Bool.false_ne_true, List.filter_cons, if_neg (by simpa using c)]
      · have h1 : ¬ (if f 0 = true then e.later else e).l = true := by
          rw [h0, decide_eq_false c, if_neg Bool.false_ne_true, hl]
          exact Bool.false_ne_true
        rw [if_neg h1, if_neg Bool.false_ne_true, List.filter_cons, if_pos (by simpa using c)]
theorem placesE_late (pls : List (Str × Nat)) : ∀ ps : List ProcD, placesE (ps.map (lateIn pls)) = (placesE ps).filter fun x => decide (x ∉ pls)
  | [] => rfl
  | p :: r => by
    have ih := placesE_late pls r
    have h1 := placesD_late p.name pls p.ds 0 (fun i => decide ((p.name, i) ∈ pls)) fun i => by rw [Nat.zero_add]
    show (placesD (lateIn pls p).name 0 (lateIn pls p).ds :: (r.map (lateIn pls)).map fun p => placesD p.name 0 p.ds).flatten = (placesD p.name 0 p.ds :: r.map fun p => placesD p.name 0 p.ds).flatten.filter _
    rw [List.flatten_cons, List.flatten_cons, List.filter_append]
    have ih' : ((r.map (lateIn pls)).map fun p => placesD p.name 0 p.ds).flatten = (r.map fun p => placesD p.name 0 p.ds).flatten.filter fun x => decide (x ∉ pls) := ih
    rw [ih', ← h1]
    rfl
theorem late_var {pls : List (Str × Nat)} {ps : List ProcD} {ins : List Str} {x : Str} (h : VarOf (ps.map (lateIn pls)) ins x) : VarOf ps ins x := by
  rcases h with ⟨q, hq, h⟩ | h
  · obtain ⟨p, hp, rfl⟩ := List.mem_map.mp hq
    refine .inl ⟨p, hp, ?_⟩
    rcases h with h | h | h
    · exact .inl h
    · exact .inr (.inl (lateAt_read.mp h))
    · exact .inr (.inr (lateAt_written.mp h))
  · exact .inr h
theorem late_con {pls : List (Str × Nat)} {ps : List ProcD} {n : Int} (h : ConOf (ps.map (lateIn pls)) n) : ConOf ps n := by
  obtain ⟨q, hq, h⟩ := h
  obtain ⟨p, hp, rfl⟩ := List.mem_map.mp hq
  exact ⟨p, hp, lateAt_const.mp h⟩
theorem late_names (pls : List (Str × Nat)) (ps : List ProcD) : (ps.map (lateIn pls)).map (·.name) = ps.map (·.name) := by
  rw [List.map_map]
  rfl
theorem late_ok {pls : List (Str × Nat)} {ps : List ProcD} {ins : List Str} (h : ProgOk ps ins) : ProgOk (ps.map (lateIn pls)) ins := by
  refine ⟨by rw [List.length_map]; exact h.p1, by rw [List.length_map]; exact h.p5, by rw [late_names]; exact h.nd, h.iok, h.ind, h.i1, h.i3, fun x hx q hq z => ?_, fun l a b => h.vars l a fun x hx => late_var (b x hx), fun l a b => h.cons l a fun x hx => late_con (b x hx), ?_⟩
  · obtain ⟨p, hp, rfl⟩ := List.mem_map.mp hq
    exact h.ino x hx p hp (lateAt_written.mp z)
  · rw [placesE_late]
    exact Nat.le_trans (List.length_filter_le _ _) h.once
/-- places one behind another -/
theorem lateIn_twice (pls qls : List (Str × Nat)) (p : ProcD) : lateIn qls (lateIn pls p) = lateIn (pls ++ qls) p := by
  show ({ p with ds := (p.ds.mapIdx _).mapIdx _ } : ProcD) = { p with ds := p.ds.mapIdx _ }
  congr 1
  refine List.ext_getElem? fun i => ?_
  rw [List.getElem?_mapIdx, List.getElem?_mapIdx, List.getElem?_mapIdx, Option.map_map]
  refine congrArg (fun f => Option.map f _) ?_
  funext d
  by_cases h1 : (p.name, i) ∈ pls <;> by_cases h2 : (p.name, i) ∈ qls <;> simp [h1, h2, lateIn_name, DeedD.later]
theorem late_twice (pls qls : List (Str × Nat)) (ps : List ProcD) : (ps.map (lateIn pls)).map (lateIn qls) = ps.map (lateIn (pls ++ qls)) := by
  rw [List.map_map]
  refine List.map_congr_left fun p _ => lateIn_twice pls qls p
theorem lateIn_same {pls qls : List (Str × Nat)} (h : ∀ x, x ∈ pls ↔ x ∈ qls) (p : ProcD) : lateIn pls p = lateIn qls p := by
  unfold lateIn
  congr 1
  funext i
  exact decide_eq_decide.mpr (h _)
theorem late_same {pls qls : List (Str × Nat)} (h : ∀ x, x ∈ pls ↔ x ∈ qls) (ps : List ProcD) : ps.map (lateIn pls) = ps.map (lateIn qls) := List.map_congr_left fun p _ => lateIn_same h p
theorem lateIn_none (p : ProcD) : lateIn [] p = p := by
  show ({ p with ds := p.ds.mapIdx _ } : ProcD) = p
  have : p.ds.mapIdx (fun i d => if decide ((p.name, i) ∈ ([] : List (Str × Nat))) = true then d.later else d) = p.ds := by
    refine List.ext_getElem? fun i => ?_
    rw [List.getElem?_mapIdx]
    cases p.ds[i]? <;> simp
  rw [this]
theorem late_none (ps : List ProcD) : ps.map (lateIn []) = ps := by
  have : lateIn [] = id := funext lateIn_none
  rw [this, List.map_id]
end TS
/-! a walk over a list or a tuple -/
namespace TS
open PySem L2
def iRow (tl : TE) : TI := fun σ H R => tl σ H fun x H1 => ∃ a xs, x = .ref a ∧ RowAt H1 a xs ∧ ∀ J, Walk J xs.length (fun G => G a = H1 a) (YAt xs) → R J H1
theorem pi_row {X : Cx} {tg l : Expr} {tl : TE} (hl : PE X l tl) : PI X tg l (iRow tl) := by
  refine ⟨fun pins s σ H R I h => ?_⟩
  refine thn (hl.run pins s σ H _ I h) fun v s1 ⟨x, H1, I1, r1, q1⟩ => ?_
  obtain ⟨a, xs, e, hq, q⟩ := q1
  subst e
  cases r1
  rcases hq with hq | hq
  · have q2 := q (Itl X.K a) (walk_list.mono (G' := fun G => G a = H1 a) (fun G e => SqL.of (e.trans hq)) fun i G x G' _ _ y => y)
    obtain ⟨its, rv, p, hz⟩ := I1.list (SqL.of hq)
    refine wpAny_pyIter_list p.isList ?_
    refine ⟨s1.heap.objs.size, [s1.heap.objs.size], _, _, H1, rfl, I1.kept (t' := s1.toks) fun b o e => Heap.get?_push_of_some _ e, turn_list a _, ⟨_, Heap.get?_push_size _ rfl, rfl, rfl⟩, fun b hb => ?_, q2⟩
    have e : b = s1.heap.objs.size := by simpa using hb
    subst e
    exact I1.fpOk (Nat.le_refl _) (I1.hok.fresh (Nat.le_refl _))
  · have q2 := q (Itt X.K a) (walk_tup.mono (G' := fun G => G a = H1 a) (fun G e => SqT.of (e.trans hq)) fun i G x G' _ _ y => y)
    obtain ⟨its, rv, p, hz⟩ := I1.tuple (SqT.of hq)
    refine wpAny_pyIter_tuple (show s1.heap.IsTuple a its.toArray from p) ?_
    refine ⟨s1.heap.objs.size, [s1.heap.objs.size], _, _, H1, rfl, I1.kept (t' := s1.toks) fun b o e => Heap.get?_push_of_some _ e, turn_tuple a _, ⟨_, Heap.get?_push_size _ rfl, rfl, rfl⟩, fun b hb => ?_, q2⟩
    have e : b = s1.heap.objs.size := by simpa using hb
    subst e
    exact I1.fpOk (Nat.le_refl _) (I1.hok.fresh (Nat.le_refl _))
end TS
/-! o.m( *y), y a list or a tuple -/
namespace TS
open PySem PySem.Spec PyProof.Rows L2
def tMethL (K : PySem.W.Frag) (C : Addr) (m : Str) (g : Addr) (sp : Sp) (E : XK) (ta te : TE) : TE := fun σ H Q => ta σ H fun x H1 => ∃ a dx fs, x = .ref a ∧ H1 a = some (.ins C dx fs) ∧ fs.lookup m = none ∧
  ∀ q, H1 q = none → te σ (upd H1 q (.met g a)) fun y H2 => ∃ b vs, y = .ref b ∧ (SqT K H2 b vs ∨ SqL K H2 b vs) ∧ H2 q = some (.met g a) ∧ sp (.ref a :: vs) H2 Q E
theorem pe_methL {X : Cx} {CX : CXT} {k : Nat} {C g : Addr} {m : Str} {sp : Sp} {E : XK} {o e : Expr} {ta te : TE} {p apos pos : Pos} (he : PE X o ta) (c : Cls X.K C) (b : BMeth X.K C m g) (F : FnR X.prog X.w X.K X.mg X.base CX k g sp) (hr : Room k X.A)
    (hx : Passes CX X E) (ha : PE X e te) (hbase : attributeBase o m X.env (eval o X.env) = eval o X.env := by rfl) : PE X (.Call (.Attribute o m apos) [.Starred e p] [] pos) (tMethL X.K C m g sp E ta te) := by
  refine ⟨fun pins s σ H Q I h => ?_⟩
  refine starcall_of hbase (thn (he.run pins s σ H _ I h) fun u s1 ⟨x, H1, I1, rx, a, dx, fs, ex, ea, l, q⟩ => ?_)
  subst ex
  obtain rfl : u = Value.ref a := rx
  refine getbound_ok I1 ea c b l fun q1 s2 hq1 I2 => ?_
  refine PySem.W.ks_call (P := PySem.W.MethP X.K q1 g (.ref a)) rfl (PySem.W.keeps_M b.fi) (PySem.W.ks_lone ?_)
  refine thn (ha.run pins s2 σ _ _ I2 (q q1 hq1)) fun v s3 ⟨y, H2, I3, ry, t, vs, ey, ht, hm, hsp⟩ => ?_
  subst ey
  obtain rfl : v = Value.ref t := ry
  refine StX.star_any I3 ht fun us s4 I4 rv => ⟨met_P I4 hm, ?_⟩
  exact wpAny_call (PySem.W.method_call (met_P I4 hm).1 (run_fnR (us := Value.ref a :: us) (vs := V.ref a :: vs) F hr hx I4 (.cons rfl rv) hsp))
end TS
namespace TS
open PySem PySem.Spec PyProof.Rows PySem.W PySem.Calls L2
/-- what __init__(self, x) of an own error promises: the object gets its dict with one attribute -/
def spIni (C : Addr) (fld : Str) : Sp := fun vs H Q _ => ∃ (a : Addr) (v : V), vs = [.ref a, v] ∧ H a = some (exo a C none) ∧
  ∀ dx, H dx = none → dx ≠ a → Q .non (upd (upd H dx (exd dx [(fld, v)])) a (exo a C (some dx)))
/-- a def's scope by its names -/
abbrev fscope (names : List (Str × NameKind)) : Scope := { kind := .function, names := names, isGenerator := false, isCoroutine := false, more := [] }
/-- super().__init__(text) -/
abbrev supX (msg : Str) (kk : Nat) (p0 p1 p2 p3 p4 : Pos) : Expr := .Call (.Attribute (.Call (.Name "super" p0) [] [] p1) "__init__" p2) [.Constant (.str msg) kk p3] [] p4
/-- its evaluation, as the positions allow it -/
def SupOk (msg : Str) (kk : Nat) (p0 p1 p2 p3 p4 : Pos) : Prop := ∀ env : Env, ∃ pl : Sem Bool, eval (supX msg kk p0 p1 p2 p3 p4) env = (do
  let ov ← attributeBase (.Call (.Name "super" p0) [] [] p1) "__init__" env (eval (.Call (.Name "super" p0) [] [] p1) env)
  standAt p2.atName
  let (f, first) ← holding [ov] (getMethod ov "__init__" pl)
  callWith p4 f first (backTo p4 (starEach [.Constant (.str msg) kk p3] env)) [])
/-- what is known of a built-in error's __init__ -/
structure IniF (B initId : String) : Prop where
  plain : plainId initId = true
  entry : entryFor table initId = some Builtin.«BaseException.__init__»
  kind : builtinKind initId = some .slot
  row : Manifest.signature? initId = some ⟨.positional, "*", B, .self, [⟨"args", .varPos, false⟩]⟩
  noStar : (B != "*") = true
  KF : KxsFacts B initId
theorem IniF.of {B newId initId : String} (F : ExcCallFacts B newId initId) (k : KxsFacts B initId) : IniF B initId := ⟨F.init.plain, F.initEntry, F.initKind, F.initRow, F.noStar, k⟩
theorem check_b {M : Model} {A : Around} {E : Value → Shared → Prop} {h : Heap} {g : Array GenState} {d : Drawn} {t : Nat} {os : OsState} {B initId newId : String} (F : IniF B initId) {nm q : Str} {C N e : Addr} {oe : Obj} {bs bm : List Value} {hdct : Bool} {sn : List Str} {sub : List Value} {ab : Bool} {col : Option Bool} {dd : Option Addr} {k0 k1 k2 k3 k5 : Option Value} {rest : List Value} {Q : Unit → Shared → Prop}
    (hC : h.get? C = some (excClassObj nm q C N bs bm hdct sn sub ab col dd k0 k1 k2 k3 k5 newId)) (he : h.get? e = some oe) (hcls : oe.cls = .ref C) (hq : Q () ⟨h, g, d, t, os⟩) : wpAny M A (checkBoundCall initId ⟨.ref e :: rest, []⟩) Q E ⟨h, g, d, t, os⟩ := by
  have hst := F.noStar
  simp only [checkBoundCall, F.kind, F.row]
  repeat (first
    | (with_reducible refine wpAny_loadPart_at he ?_; rw [hcls])
    | with_reducible refine wpAny_loadPart_at hC ?_
    | wp_step)
  refine wpAny_onRaise ?_
  have z : ∀ (x y : String) (n : Nat), Bind.check ⟨.positional, "*", B, .self, [⟨"args", .varPos, false⟩]⟩ x y n (List.map (fun x => x.fst) ({ pos := Value.ref e :: rest } : Args).kw) = pure () := fun x y n => check_star_args _ _ _ _ _ _
  rw [z]
  exact wpAny_pure hq
/-- what the written part says of an own error's class, over the built-in B -/
structure ErrK (K : Frag) (C : Addr) (B newId initId : String) (bmB : List Value) : Prop where
  NF : ∃ (Bn iN : String) (bmN : List Value), ExcBaseFacts Bn newId iN bmN ∧ bmB.contains (.type Bn) = true
  noA : bmB.contains (.type "AttributeError") = false
  noN : bmB.contains (.type "NameError") = false
  IF : IniF B initId
  pass : ∀ self : Value, refuseLoop self "__setattr__" bmB = pure ()
  obj : bmB.contains (.type "object") = true
  cls : ∃ nm qn N bs bm sn sub ab col dd k0 k1 k2 k3 k5, K.lookup C = some (excClassObj nm qn C N bs bm true sn sub ab col dd k0 k1 k2 k3 k5 newId) ∧ excTail bmB bm = true
  sa : findIn K (.ref C) "__setattr__" = some (some (.builtin "object.__setattr__"))
  exC : subIn K (.ref C) (.type "BaseException") = some true
  tyC : typeIn K (.ref C) = some (.type "type")
  kC : keepIn K (.ref C) = true
open Builtin Builtin.ObjectAttr in
/-- self.name = v on an error that has no dict yet -/
theorem exc_put {prog : Program} {w : World} {A : Around} {R : Result → Shared → Prop} {hp : Heap} {g : Array GenState} {dr : Drawn} {t : Nat} {os : OsState} {K : Frag} {name : Str} {tk : Tok} {v : Value} {x C : Addr} {fv : Array Value} {nm qn : Str} {N : Addr} {bs bm sub : List Value} {sn : List Str} {ab : Bool} {col : Option Bool} {bmB : List Value}
    (X : K.In hp) (hx : hp.get? x = some { cls := .ref C, data := .fields fv }) (hm : excTail bmB bm = true) (hps : ∀ self : Value, refuseLoop self "__setattr__" bmB = pure ()) (hob : bmB.contains (.type "object") = true)
    (hcd : clsIn K C = some { name := nm, bases := bs, mro := .ref C :: bm, ns := N, qualname := qn, hasDict := true, slotNames := sn, subclasses := sub, abstract := ab, collection := col, hasDel := false })
    (ha : findIn K (.ref C) name = some none)
    (hq : ∀ h' tk' dx, (∀ b o, b ≠ x → hp.get? b = some o → h'.get? b = some o) → hp.objs.size ≤ dx → dx ≠ x → h'.get? x = some { cls := .ref C, dict := some dx, data := .fields fv } →
      h'.Ns1 dx (fun y => if y = name then some v else none) → R (.ok (.ret .none)) ⟨h', g, dr, tk', os⟩) :
    codeAny (model prog w) A (.call (.builtin "object.__setattr__") ⟨[.ref x, .str name tk, v], []⟩) R ⟨hp, g, dr, t, os⟩ := by
  have J : InstAt hp x { cls := .ref C, data := .fields fv } C none := ⟨hx, rfl, rfl, trivial⟩
  have hT : excTail bmB (.ref C :: bm) = true := hm
  have ob : (Value.ref C :: bm).contains (.type "object") = true := (excTail_contains "object" _ hT).trans hob
  have fresh : x ≠ hp.objs.size := Nat.ne_of_lt (Heap.lt_size hx)
  have isob : Looks (model prog w) hp (isInstance (.ref x) (.type "object")) true := J.type.andThen (looks_mroIn X (by
    unfold mroIn
    rw [hcd, Option.bind_some, if_neg (by simp), ob]))
  have SO := F.store_object
  refine codeAny_call_builtin SO.slot.plain SO.entry (@check_slot (model prog w) _ _ ⟨hp, g, dr, t, os⟩ "object.__setattr__" "object" "__setattr__" (.ref x) [.str name tk, v] [] _ SO.kind SO.split isob (SO.args (.ref x) (.str name tk) v) ?_)
  have Lm : Looks (model prog w) hp (mroOf (.ref C)) (.ref C :: bm) := (looks_clsIn X hcd).andThen .now
  have Ln : Looks (model prog w) hp (storeTaker? none) none := .now
  have Lc := looks_clsIn (M := model prog w) X hcd
  rw [osa_eq, refuse_eq]
  refine wpAny_bind (wpAny_bind (J.type.at (wpAny_bind (Lm.at ?_))))
  rw [excTail_pass _ (hps _) _ hT]
  refine wpAny_pure (wpAny_bind (J.type.at (wpAny_bind ((looks_findIn X ha).at (wpAny_bind (Ln.at ?_))))))
  show wpAny _ _ (storeInOwnDict (.ref x) (.ref C) (.str name tk) name v false) _ _ _
  unfold storeInOwnDict ownDictForStores
  repeat (first | with_reducible refine PySem.HandSPX.store_in_new ?_ ?_ | with_reducible refine wpAny_loadPart_at hx ?_ | with_reducible refine Lc.at ?_ | wp_step)
  · exact ⟨_, #[], _, (Heap.get?_update_ne _ _ _ _ fresh.symm).trans (Heap.get?_push_at rfl rfl), rfl, fun e he => absurd he (by simp), fun _ => rfl⟩
  · intro h' tk' hn' hs
    have hx1 : (hp.push { cls := .type "dict", data := .dict #[] }).get? x = some { cls := .ref C, data := .fields fv } := Heap.get?_push_of_some _ hx
    refine hq h' tk' hp.objs.size (fun b o hb z => ?_) (Nat.le_refl _) fresh.symm ?_ hn'
    · refine (hs.2 b (Nat.ne_of_lt (Heap.lt_size z))).trans ?_
      exact (Heap.get?_update_ne _ _ _ _ hb).trans (Heap.get?_push_of_some _ z)
    · exact (hs.2 x fresh).trans (Heap.get?_update_self _ hx1 rfl)
/-- what the written part says of an own error's __init__ with super().__init__(text) -/
structure IniTxt (K : Frag) (C cc cda : Addr) (qual : Str) (file : Str) (B initId : String) : Prop where
  hcode : ∃ ccl cdd vs ccs tf, K.lookup cda = some ⟨ccl, cdd, .fields vs, ccs⟩ ∧ vs[2]? = some (.str file tf)
  hcell : ∃ cl cld csl, K.lookup cc = some ⟨cl, cld, .cell (some (.ref C)), csl⟩
  hself : mroIn K C (.ref C) = some true
  hcd : codeIn K (.ref cda) qual = true
  ho : nsIn K cStatics "thirdparty.any" = some none
  hm : ks_superIn K C C "__init__" = some (some (.builtin initId))
  hB : subIn K (.ref C) (.type B) = some true
theorem fn_ini {P : Program} {w : World} {K : Frag} {mg : Str → Option Value} {base : Heap} {k : Nat} {f cc cda C : Addr} {qual fld msg arg file : Str} {params : Arguments} {names : List (Str × NameKind)} {dV kV doc pm ct oc : Value} {an od : Option Addr} {osl : Array (Option Value)}
    {p0 p1 p2 p3 p4 p5 p6 p7 p8 p9 : Pos} {kk : Nat} {ar : Arg} {B newId initId : String} {bmB : List Value}
    (T : ErrK K C B newId initId bmB) (Z : IniTxt K C cc cda qual file B initId) (SO : SupOk msg kk p0 p1 p2 p3 p4)
    (lk : K.lookup f = some ⟨oc, od, .func (ksFn "__init__" qual params
      [.Expr (supX msg kk p0 p1 p2 p3 p4) p5,
       .Assign [.Attribute (.Name "self" p6) fld p7] (.Name arg p8) p9] (fscope names) dV kV doc pm an (.ref cda) ct cc), osl⟩)
    (hfile : ((P.main.file : Str) == file) = true) (htop : (P.main.scope.names.lookup ("super" : Str)).isSome = false)
    (hsup : mg "super" = none) (hno : findIn K (.ref C) fld = some none)
    (hp : (params.posonlyargs ++ params.args).head? = some ar) (har : ar.arg = "self")
    (hks : names.lookup ("super" : Str) = some .globalImplicit) (hkc : names.lookup ("__class__" : Str) = some .free)
    (hka : names.lookup ("self" : Str) = some .local) (hkv : names.lookup arg = some .local)
    (hcell : ∀ x ∈ names, x.2 ≠ .cell)
    (hne : arg ≠ "self") (hdb : (arg == ("__debug__" : Str)) = false) :
    FnOk P w K mg base CX0 (k + 1) f (ksFn "__init__" qual params
      [.Expr (supX msg kk p0 p1 p2 p3 p4) p5,
       .Assign [.Attribute (.Name "self" p6) fld p7] (.Name arg p8) p9] (fscope names) dV kV doc pm an (.ref cda) ct cc) ["self", arg] (spIni C fld) := by
  refine ⟨fun vs H Q E h => ?_, fun A outer s H args us vs Q E hr e0 hb r hsp => ?_⟩
  · obtain ⟨a, v, rfl, _⟩ := h
    rfl
  obtain ⟨a, v, rfl, ea, q⟩ := hsp
  obtain ⟨u, rfl, rv⟩ : ∃ u, us = [Value.ref a, u] ∧ RelV v u := by
    cases r with
    | cons ra rr =>
      cases rr with
      | cons rb rc =>
        cases rc
        exact ⟨_, by rw [show _ = Value.ref a from ra], rb⟩
  have KX : K.In s.heap := e0.mod.kin.keeps fun b o e => (e0.bs b o e).1
  have lim : s.heap.NoLimit := e0.mod.nolimit.keeps fun b o e => (e0.bs b o e).1
  refine ks_codeAny_call_defAt (binds := [("self", Value.ref a), (arg, u)]) hr.depth (KX _ _ lk) rfl lim (codeRec_of KX Z.hcd) rfl hb hcell ?_ (fun h₁ hns hk₁ => ?_)
  · intro x hx
    rcases List.mem_cons.mp hx with rfl | hx
    · exact hka
    · rcases List.mem_cons.mp hx with rfl | hx
      · exact hkv
      · cases hx
  have X₁ : K.In h₁ := KX.keeps hk₁
  have bk : ∀ b o, base.get? b = some o → h₁.get? b = some o := fun b o e => hk₁ b o (e0.bs b o e).1
  obtain ⟨t1, hoa⟩ := exo_at e0.hok ea
  have ho1 := hk₁ _ _ hoa
  obtain ⟨nm, qn, N, bs, bm, sn, sub, ab, col, dd, k0, k1, k2, k3, k5, hC, hbm⟩ := T.cls
  obtain ⟨ccl, cdd, cvs, ccs, tf, hcode, hcvs⟩ := Z.hcode
  obtain ⟨cl, cld, csl, hcel⟩ := Z.hcell
  have hcl : clsIn K C = some { name := nm, bases := bs, mro := .ref C :: bm, ns := N, qualname := qn, hasDict := true, slotNames := sn, subclasses := sub, abstract := ab, collection := col, hasDel := false } := by
    unfold clsIn
    rw [hC] <;> rfl
  have mself : (fun x => ([("self", Value.ref a), (arg, u)] : List (Str × Value)).reverse.lookup x) "self" = some (Value.ref a) := by
    show List.lookup ("self" : Str) [(arg, u), ("self", Value.ref a)] = _
    rw [List.lookup_cons, show (("self" : Str) == arg) = false from by simpa using fun z : ("self" : Str) = arg => hne z.symm]
    simp [List.lookup]
  have marg : (fun x => ([("self", Value.ref a), (arg, u)] : List (Str × Value)).reverse.lookup x) arg = some u := by
    show List.lookup arg [(arg, u), ("self", Value.ref a)] = _
    simp [List.lookup]
  obtain ⟨mb, hmb, hboot⟩ := e0.mod.blt
  obtain ⟨pl, he⟩ := SO (callEnv (ksFn "__init__" qual params
      [.Expr (supX msg kk p0 p1 p2 p3 p4) p5,
       .Assign [.Attribute (.Name "self" p6) fld p7] (.Name arg p8) p9] (fscope names) dV kV doc pm an (.ref cda) ct cc) s.heap.objs.size f)
  refine ks_wpAt_execs_cons (ks_wpAt_Expr_any (ks_wpAt_MethodCall ?_ he))
  refine ks_wpAt_super_base (f := f) (cc := cda) (ar := ar) hks hkc (by decide) rfl (X₁ _ _ lk) rfl hp rfl (X₁ _ _ hcode) rfl hcvs hfile htop ?_
  refine ks_loadName_global rfl hks (loadGlobal_builtin (e0.mod.glob.keeps bk) hsup (hmb.keeps bk) ((hboot _ (by decide +kernel)).trans (by decide +kernel : bootBuiltins "super" = some (.type "super"))) ⟨rfl, ?_⟩)
  refine wpAny_loadName_free rfl hkc rfl ⟨_, X₁ _ _ hcel, rfl⟩ ?_
  rw [har]
  refine wpAny_loadName_local rfl hka hns mself ?_
  refine ks_wpAny_isType_cls (X₁ _ _ hC) rfl ⟨rfl, ?_⟩
  refine ks_wpAny_call_super (X₁ _ _ hC) rfl ho1 rfl (fun c z => by cases z) (looks_mroIn X₁ Z.hself) (fun h₂ hso hk₂ => ?_)
  have X₂ : K.In h₂ := X₁.keeps hk₂
  have hoa2 := hk₂ _ _ ho1
  have I2 : InstAt h₂ a { cls := .ref C, dict := none, data := .fields #[.ref t1, .none, .none, .none, .bool false, .none] } C none := ⟨hoa2, rfl, rfl, trivial⟩
  have hm := Z.hm
  unfold ks_superIn at hm
  rw [hcl, Option.bind_some] at hm
  have xC : a ≠ C := ks_ne X₂ I2 hcl
  refine kxs_getMethod T.IF.KF hso (looks_opaque X₂ Z.ho) (l₀ := .ref C :: bm) ((looks_clsIn X₂ hcl).andThen .now) rfl X₂ hm (I2.type.andThen (looks_subIn X₂ Z.hB)) xC (by decide) ?_
  refine kxs_callWith (i := initId) (x := a) rfl ?_
  show wpAny _ _ (evalArgs _ true [(false, eval (.Constant (.str msg) kk p3) _)] []) _ _ _
  refine evalArgs_plain (spliced_cons (Calls.Constant_str (spliced_nil ?_)))
  have hu3 : (h₂.push (kxs_mw initId a)).get? h₂.objs.size = some (kxs_mw initId a) := Heap.get?_push_at rfl rfl
  have hk₃ : ∀ b o, h₂.get? b = some o → (h₂.push (kxs_mw initId a)).get? b = some o := fun b o e => Heap.get?_push_of_some _ e
  refine ⟨hu3, ?_⟩
  refine wpAny_call (codeAny_of_tree ?_)
  show wpAny _ _ (callAny (.ref h₂.objs.size) _) _ _ _
  simp only [callAny]
  refine wpAny_bind (wpAny_load hu3 ?_)
  refine KFB.if_so (by first | rfl | simp [kxs_mw]) ?_
  refine wpAny_bind (check_b T.IF (hk₃ _ _ (X₂ _ _ hC)) (hk₃ _ _ hoa2) rfl ?_)
  refine wpAny_bind (wpAny_pure (wpAny_pure ?_))
  refine ⟨plainId_quiet T.IF.plain _, codeAny_builtin T.IF.entry ?_⟩
  refine exc_init_tree (cls := .ref C) (t0 := t1) (dv := none) (c2 := .none) (c3 := .none) (b4 := .bool false) (hk₃ _ _ hoa2) (by show 1 ≤ sizeLine; decide) fun h₄ hk₄ hx₄ _ => ?_
  have k14 : ∀ b o, b ≠ a → h₁.get? b = some o → h₄.get? b = some o := fun b o hb e => hk₄ b o hb (hk₃ b o (hk₂ b o e))
  have aL : a < s.heap.objs.size := Heap.lt_size hoa
  have hns4 : h₄.Ns s.heap.objs.size (fun x => ([("self", Value.ref a), (arg, u)] : List (Str × Value)).reverse.lookup x) := by
    obtain ⟨oL, es, ep, hL, rest⟩ := hns
    exact ⟨oL, es, ep, k14 _ _ (Nat.ne_of_gt aL) hL, rest⟩
  have X₄ : K.In h₄ := fun b o e => by
    refine k14 b o ?_ (X₁ b o e)
    rintro rfl
    have hbb := (e0.mod.kin b o e)
    have := (e0.bs b o hbb).2
    rw [ea] at this
    cases this
  refine ks_wpAt_execs_cons (ks_wpAt_Assign_Attr (wpAt_of_wpAny (wpAny_Name (wpAny_loadName_local rfl hkv hns4 marg ?_) hdb)))
  refine wpAny_Name (wpAny_loadName_local rfl hka hns4 mself ?_) (by decide)
  refine set_plain X₄ (ox := { cls := .ref C, dict := none, data := .fields #[.ref (h₂.push (kxs_mw initId a)).objs.size, .none, .none, .none, .bool false, .none] }) (od := none) ⟨hx₄, rfl, rfl, trivial⟩ T.sa ?_
  refine exc_put X₄ hx₄ hbm T.pass T.obj hcl hno (fun h₅ tk₅ dx hk₅ hdx hdxa hx₅ hn₅ => ?_)
  have L4 : s.heap.objs.size < h₄.objs.size := by
    obtain ⟨oL, es, ep, hL, rest⟩ := hns4
    exact Heap.lt_size hL
  have dge : s.heap.objs.size ≤ dx := Nat.le_trans (Nat.le_of_lt L4) hdx
  have hnd : H dx = none := e0.hok.fresh dge
  have k05 : ∀ b o, b ≠ a → s.heap.get? b = some o → h₅.get? b = some o := fun b o hb e => hk₅ b o hb (k14 b o hb (hk₁ b o e))
  have nd : ∀ {b : Addr} {o : Obj}, s.heap.get? b = some o → b ≠ dx := fun {b o} z => Nat.ne_of_lt (Nat.lt_of_lt_of_le (Heap.lt_size z) dge)
  have na : ∀ {b : Addr}, H b = none → b ≠ a := fun {b} n z => by
    rw [z, ea] at n
    cases n
  refine wpAt_of_wpAny (wpAny_pure ?_)
  refine ⟨V.non, upd (upd H dx (exd dx [(fld, v)])) a (exo a C (some dx)), rfl, e0.bare, ?_, ?_, rfl, q dx hnd hdxa⟩
  · exact {
      keep := fun b o z n _ _ => k05 b o (na n) z
      slot := fun b o z n _ _ => ⟨o.slots, k05 b o (na n) z⟩
      free := fun b o z n _ => by
        rw [upd_ne (na n), upd_ne (nd z)]
        exact n
      there := fun b o z _ => by
        by_cases hb : b = a
        · exact ⟨_, by rw [hb]; exact hx₅⟩
        · exact ⟨o, k05 b o hb z⟩
      tups := fun b xs z => by
        rw [upd_ne (at_ne ea z exo_tup), upd_ne (ne_of_none z hnd)]
        exact z
      frzs := fun b o y z => by
        rw [upd_ne (at_ne ea z exo_frz), upd_ne (ne_of_none z hnd)]
        exact z
      tbls := fun b ps z => ⟨#[], by
        rw [upd_ne (at_ne ea z exo_tbl), upd_ne (ne_of_none z hnd), z]
        simp⟩ }
  · intro b o z
    by_cases hb : b = a
    · subst hb
      rw [upd_same] at z
      cases z
      exact exo_ok hx₅
    · rw [upd_ne hb] at z
      by_cases hd : b = dx
      · subst hd
        rw [upd_same] at z
        cases z
        exact exd_ok hn₅ (relO_put (fs := []) rv fun g => True.intro)
      · rw [upd_ne hd] at z
        have nown : ∀ {c : Addr}, H c = some (.own b) → c ≠ a := fun {c} hc => at_ne ea hc exo_own
        refine (e0.hok b o z).stay (fun c y hc e => k05 c y ?_ e) (fun c hc => ?_) (fun c xs hc => ?_)
        · rcases hc with hc | hc
          · rw [hc]
            exact hb
          · exact nown hc
        · rw [upd_ne (nown hc), upd_ne (ne_of_none hc hnd)]
          exact hc
        · rw [upd_ne (at_ne ea hc exo_tup), upd_ne (ne_of_none hc hnd)]
          exact hc
end TS
namespace TS
open PySem PySem.Spec PyProof.Rows PySem.W PySem.Calls L2
section
variable {prog : Program} {w : World} {M : Model} {A : Around} {E : Value → Shared → Prop} {R : Result → Shared → Prop} {h : Heap} {g : Array GenState} {d : Drawn} {t : Nat} {os : OsState}
variable {nm q : Str} {C N : Addr} {bs bm bmB : List Value} {hdct : Bool} {sn : List Str} {sub : List Value} {ab : Bool} {col : Option Bool} {dd : Option Addr} {k0 k1 k2 k3 k5 : Option Value} {B newId initId : String}
theorem check_newK (F : ExcBaseFacts B newId initId bmB) (hT : bm.contains (.type B) = true ∧ bm.contains (.type "AttributeError") = false ∧ bm.contains (.type "NameError") = false) {rest : List Value} {arg : Str} {u : Value} {Q : Unit → Shared → Prop}
    (hC : h.get? C = some (excClassObj nm q C N bs bm hdct sn sub ab col dd k0 k1 k2 k3 k5 newId)) (hq : Q () ⟨h, g, d, t, os⟩) :
    wpAny M A (checkBuiltinCall newId ⟨.ref C :: rest, [(arg, u)]⟩) Q E ⟨h, g, d, t, os⟩ := by
  have hB : (Value.ref C :: bm).contains (.type B) = true := by
    rw [List.contains_cons, hT.1, Bool.or_true]
  have hst := F.noStar
  simp only [checkBuiltinCall, F.newKind, F.newSplit, F.newRow]
  repeat (first
    | refine wpAny_loadPart_at hC ?_
    | (refine wpAny_isSubtype_exc hC ?_; rw [hB])
    | refine wpAny_staticBase_exc hC ?_
    | refine wpAny_madeBy_exc hC ?_
    | simp only [bne_self_eq_false, Bool.false_eq_true, if_false]
    | wp_step)
  exact hq
theorem newK (F : ExcBaseFacts B newId initId bmB) (hT : bm.contains (.type B) = true ∧ bm.contains (.type "AttributeError") = false ∧ bm.contains (.type "NameError") = false) {rest : List Value} {arg : Str} {u : Value}
    (hC : h.get? C = some (excClassObj nm q C N bs bm hdct sn sub ab col dd k0 k1 k2 k3 k5 newId))
    (hq : R (.ok (.ret (.ref (h.objs.size + 1)))) ⟨(h.push (kdv_tup rest)).push (PySem.HandSPX.excO C h.objs.size), g, d, t, os⟩) (hrest : rest.length ≤ sizeLine) :
    codeAny (model prog w) A (.builtin newId ⟨.ref C :: rest, [(arg, u)]⟩) R ⟨h, g, d, t, os⟩ := by
  have e0 := F.ends
  have e1 : (Value.ref C :: bm).contains (.type B) = true := by rw [List.contains_cons, hT.1, Bool.or_true]
  have e2 : (Value.ref C :: bm).contains (.type "AttributeError") = false := by rw [List.contains_cons, hT.2.1] <;> rfl
  have e3 : (Value.ref C :: bm).contains (.type "NameError") = false := by rw [List.contains_cons, hT.2.2] <;> rfl
  refine codeAny_builtinAt F.entry ?_
  unfold Builtin.«BaseException.__new__»
  refine PySem.wpAt_bind ?_
  show PySem.wpAt _ _ _ (stack >>= _) _ _ _
  refine PySem.wpAt_bind (PySem.wpAt_stack fun p below => PySem.wpAt_of_wpAny ?_)
  wp_walk
  refine PySem.wpAt_of_wpAny ?_
  rw [F.owner]
  repeat (first
    | with_reducible refine wpAny_madeHere_exc F.canon hC ?_
    | with_reducible refine wpAny_loadPart_at hC ?_
    | (with_reducible refine wpAny_isSubtype_exc hC ?_; first | rw [e1] | rw [e2] | rw [e3])
    | wp_step)
  show R _ _
  rw [Heap.size_push]
  exact hq
theorem type_callK (F : ExcBaseFacts B newId initId bmB) (hT : bm.contains (.type B) = true ∧ bm.contains (.type "AttributeError") = false ∧ bm.contains (.type "NameError") = false) {rest : List Value} {arg : Str} {u : Value} {fI : Addr} {Q : PySem.Fin → Shared → Prop}
    (hC : h.get? C = some (excClassObj nm q C N bs bm hdct sn sub ab col dd k0 k1 k2 k3 k5 newId))
    (hi : Looks (model prog w) h (typeLookup (.ref C) "__init__") (some (.ref fI))) (hb : ∀ self, Looks (model prog w) h (bindSpecial (.ref fI) self) (.ref fI, [self])) (hrest : rest.length ≤ sizeLine)
    (hq : codeAny (model prog w) A (.call (.ref fI) ⟨.ref (h.objs.size + 1) :: rest, [(arg, u)]⟩)
      (fun r s' => match r with | .ok (.ret v) => v = .none ∧ Q (.done (.ret (.ref (h.objs.size + 1)))) s' | .ok _ => False | .error e => E e s')
      ⟨(h.push (kdv_tup rest)).push (PySem.HandSPX.excO C h.objs.size), g, d, t, os⟩) :
    wpAny (model prog w) A (Builtin.«type.__call__» ⟨.ref C :: rest, [(arg, u)]⟩) Q E ⟨h, g, d, t, os⟩ := by
  repeat (first
    | with_reducible refine wpAny_loadPart_at hC ?_
    | with_reducible refine wpAny_madeBy_exc hC ?_
    | wp_step)
  refine codeAny_call_builtin_code (Code.quiet_builtin _ F.quiet) (check_newK F hT hC ?_)
  refine newK F hT hC ?_ hrest
  show wpAny _ _ _ _ _ _
  have kp : ∀ b o, h.get? b = some o → ((h.push (kdv_tup rest)).push (PySem.HandSPX.excO C h.objs.size)).get? b = some o :=
    fun b o z => Heap.get?_push_of_some _ (Heap.get?_push_of_some _ z)
  have hC1 := kp _ _ hC
  have hget : ((h.push (kdv_tup rest)).push (PySem.HandSPX.excO C h.objs.size)).get? (h.objs.size + 1) = some (PySem.HandSPX.excO C h.objs.size) := by heap_get
  have hcC : (Value.ref C :: bm).contains (.ref C) = true := by simp
  have j1 := hi.keeps kp
  have j2 := (hb (.ref (h.objs.size + 1))).keeps kp
  unfold isInstance
  repeat (first
    | with_reducible refine wpAny_loadPart_at hget ?_
    | (with_reducible refine wpAny_isSubtype_exc hC1 ?_; rw [hcC])
    | wp_step)
  show wpAny _ _ (typeLookup (.ref C) _) _ _ _
  refine j1.at ?_
  refine wpAny_holding (wpAny_bind (j2.at ?_))
  refine wpAny_bind (wpAny_call (codeAny_mono hq fun r s' z => ?_))
  rcases r with e | (v | _ | _ | _) <;> first | exact z | exact z.elim | skip
  obtain ⟨rfl, z⟩ := z
  first
    | exact wpAny_pure (wpAny_pure z)
    | (wp_walk; exact z)
theorem check_typeK {rest : List Value} {arg : Str} {u : Value} {Q : Unit → Shared → Prop} (hC : h.get? C = some (excClassObj nm q C N bs bm hdct sn sub ab col dd k0 k1 k2 k3 k5 newId))
    (hq : Q () ⟨h, g, d, t, os⟩) : wpAny M A (checkBuiltinCall "type.__call__" ⟨.ref C :: rest, [(arg, u)]⟩) Q E ⟨h, g, d, t, os⟩ := by
  have f3 := tc_sub
  have hTy : (⟨h, g, d, t, os⟩ : Shared).TypeIs (.ref C) "type" := ⟨_, hC, rfl⟩
  simp only [checkBuiltinCall, tc_kind, tc_split]
  repeat (any_goals (first
    | assumption
    | with_reducible refine wpAny_loadPart_at hC ?_
    | with_reducible refine wpAny_onRaise ?_
    | with_reducible refine wpAny_map ?_
    | wp_step))
theorem callK (F : ExcBaseFacts B newId initId bmB) (hT : bm.contains (.type B) = true ∧ bm.contains (.type "AttributeError") = false ∧ bm.contains (.type "NameError") = false) {rest : List Value} {arg : Str} {u : Value} {fI : Addr}
    (hC : h.get? C = some (excClassObj nm q C N bs bm hdct sn sub ab col dd k0 k1 k2 k3 k5 newId))
    (hi : Looks (model prog w) h (typeLookup (.ref C) "__init__") (some (.ref fI))) (hb : ∀ self, Looks (model prog w) h (bindSpecial (.ref fI) self) (.ref fI, [self])) (hrest : rest.length ≤ sizeLine)
    (hq : codeAny (model prog w) (A.under (.builtin "type.__call__" ⟨.ref C :: rest, [(arg, u)]⟩)) (.call (.ref fI) ⟨.ref (h.objs.size + 1) :: rest, [(arg, u)]⟩) (InitBack (h.objs.size + 1) R)
      ⟨(h.push (kdv_tup rest)).push (PySem.HandSPX.excO C h.objs.size), g, d, t, os⟩) :
    codeAny (model prog w) A (.call (.ref C) ⟨rest, [(arg, u)]⟩) R ⟨h, g, d, t, os⟩ := by
  have f1 := tc_lookup
  have f2 := tc_bind (.ref C)
  have hTy : (⟨h, g, d, t, os⟩ : Shared).TypeIs (.ref C) "type" := ⟨_, hC, rfl⟩
  refine codeAny_of_tree ?_
  show wpAny _ _ (callAny (.ref C) _) _ _ _
  repeat (any_goals (first
    | assumption
    | with_reducible refine wpAny_loadPart_at hC ?_
    | wp_step))
  refine ⟨rfl, ?_⟩
  refine codeAny_call_builtin_at (Code.quiet_builtin _ (by decide +kernel)) entry_typeCall (check_typeK hC (type_callK F hT hC hi hb hrest ?_))
  refine codeAny_mono hq fun r s' z => ?_
  rcases r with e | (v | _ | _ | _) <;> exact z
theorem check_new0 (F : ExcBaseFacts B newId initId bmB) (hT : bm.contains (.type B) = true ∧ bm.contains (.type "AttributeError") = false ∧ bm.contains (.type "NameError") = false) {rest : List Value} {Q : Unit → Shared → Prop}
    (hC : h.get? C = some (excClassObj nm q C N bs bm hdct sn sub ab col dd k0 k1 k2 k3 k5 newId)) (hq : Q () ⟨h, g, d, t, os⟩) :
    wpAny M A (checkBuiltinCall newId ⟨.ref C :: rest, []⟩) Q E ⟨h, g, d, t, os⟩ := by
  have hB : (Value.ref C :: bm).contains (.type B) = true := by
    rw [List.contains_cons, hT.1, Bool.or_true]
  have hst := F.noStar
  simp only [checkBuiltinCall, F.newKind, F.newSplit, F.newRow]
  repeat (first
    | refine wpAny_loadPart_at hC ?_
    | (refine wpAny_isSubtype_exc hC ?_; rw [hB])
    | refine wpAny_staticBase_exc hC ?_
    | refine wpAny_madeBy_exc hC ?_
    | simp only [bne_self_eq_false, Bool.false_eq_true, if_false]
    | wp_step)
  exact hq
theorem new0 (F : ExcBaseFacts B newId initId bmB) (hT : bm.contains (.type B) = true ∧ bm.contains (.type "AttributeError") = false ∧ bm.contains (.type "NameError") = false) {rest : List Value}
    (hC : h.get? C = some (excClassObj nm q C N bs bm hdct sn sub ab col dd k0 k1 k2 k3 k5 newId))
    (hq : R (.ok (.ret (.ref (h.objs.size + 1)))) ⟨(h.push (kdv_tup rest)).push (PySem.HandSPX.excO C h.objs.size), g, d, t, os⟩) (hrest : rest.length ≤ sizeLine) :
    codeAny (model prog w) A (.builtin newId ⟨.ref C :: rest, []⟩) R ⟨h, g, d, t, os⟩ := by
  have e0 := F.ends
  have e1 : (Value.ref C :: bm).contains (.type B) = true := by rw [List.contains_cons, hT.1, Bool.or_true]
  have e2 : (Value.ref C :: bm).contains (.type "AttributeError") = false := by rw [List.contains_cons, hT.2.1] <;> rfl
  have e3 : (Value.ref C :: bm).contains (.type "NameError") = false := by rw [List.contains_cons, hT.2.2] <;> rfl
  refine codeAny_builtinAt F.entry ?_
  unfold Builtin.«BaseException.__new__»
  refine PySem.wpAt_bind ?_
  show PySem.wpAt _ _ _ (stack >>= _) _ _ _
  refine PySem.wpAt_bind (PySem.wpAt_stack fun p below => PySem.wpAt_of_wpAny ?_)
  wp_walk
  refine PySem.wpAt_of_wpAny ?_
  rw [F.owner]
  repeat (first
    | with_reducible refine wpAny_madeHere_exc F.canon hC ?_
    | with_reducible refine wpAny_loadPart_at hC ?_
    | (with_reducible refine wpAny_isSubtype_exc hC ?_; first | rw [e1] | rw [e2] | rw [e3])
    | wp_step)
  show R _ _
  rw [Heap.size_push]
  exact hq
theorem type_call0 (F : ExcBaseFacts B newId initId bmB) (hT : bm.contains (.type B) = true ∧ bm.contains (.type "AttributeError") = false ∧ bm.contains (.type "NameError") = false) {rest : List Value} {fI : Addr} {Q : PySem.Fin → Shared → Prop}
    (hC : h.get? C = some (excClassObj nm q C N bs bm hdct sn sub ab col dd k0 k1 k2 k3 k5 newId))
    (hi : Looks (model prog w) h (typeLookup (.ref C) "__init__") (some (.ref fI))) (hb : ∀ self, Looks (model prog w) h (bindSpecial (.ref fI) self) (.ref fI, [self])) (hrest : rest.length ≤ sizeLine)
    (hq : codeAny (model prog w) A (.call (.ref fI) ⟨.ref (h.objs.size + 1) :: rest, []⟩)
      (fun r s' => match r with | .ok (.ret v) => v = .none ∧ Q (.done (.ret (.ref (h.objs.size + 1)))) s' | .ok _ => False | .error e => E e s')
      ⟨(h.push (kdv_tup rest)).push (PySem.HandSPX.excO C h.objs.size), g, d, t, os⟩) :
    wpAny (model prog w) A (Builtin.«type.__call__» ⟨.ref C :: rest, []⟩) Q E ⟨h, g, d, t, os⟩ := by
  repeat (first
    | with_reducible refine wpAny_loadPart_at hC ?_
    | with_reducible refine wpAny_madeBy_exc hC ?_
    | wp_step)
  refine codeAny_call_builtin_code (Code.quiet_builtin _ F.quiet) (check_new0 F hT hC ?_)
  refine new0 F hT hC ?_ hrest
  show wpAny _ _ _ _ _ _
  have kp : ∀ b o, h.get? b = some o → ((h.push (kdv_tup rest)).push (PySem.HandSPX.excO C h.objs.size)).get? b = some o :=
    fun b o z => Heap.get?_push_of_some _ (Heap.get?_push_of_some _ z)
  have hC1 := kp _ _ hC
  have hget : ((h.push (kdv_tup rest)).push (PySem.HandSPX.excO C h.objs.size)).get? (h.objs.size + 1) = some (PySem.HandSPX.excO C h.objs.size) := by heap_get
  have hcC : (Value.ref C :: bm).contains (.ref C) = true := by simp
  have j1 := hi.keeps kp
  have j2 := (hb (.ref (h.objs.size + 1))).keeps kp
  unfold isInstance
  repeat (first
    | with_reducible refine wpAny_loadPart_at hget ?_
    | (with_reducible refine wpAny_isSubtype_exc hC1 ?_; rw [hcC])
    | wp_step)
  show wpAny _ _ (typeLookup (.ref C) _) _ _ _
  refine j1.at ?_
  refine wpAny_holding (wpAny_bind (j2.at ?_))
  refine wpAny_bind (wpAny_call (codeAny_mono hq fun r s' z => ?_))
  rcases r with e | (v | _ | _ | _) <;> first | exact z | exact z.elim | skip
  obtain ⟨rfl, z⟩ := z
  first
    | exact wpAny_pure (wpAny_pure z)
    | (wp_walk; exact z)
theorem check_type0 {rest : List Value} {Q : Unit → Shared → Prop} (hC : h.get? C = some (excClassObj nm q C N bs bm hdct sn sub ab col dd k0 k1 k2 k3 k5 newId))
    (hq : Q () ⟨h, g, d, t, os⟩) : wpAny M A (checkBuiltinCall "type.__call__" ⟨.ref C :: rest, []⟩) Q E ⟨h, g, d, t, os⟩ := by
  have f3 := tc_sub
  have hTy : (⟨h, g, d, t, os⟩ : Shared).TypeIs (.ref C) "type" := ⟨_, hC, rfl⟩
  simp only [checkBuiltinCall, tc_kind, tc_split]
  repeat (any_goals (first
    | assumption
    | with_reducible refine wpAny_loadPart_at hC ?_
    | with_reducible refine wpAny_onRaise ?_
    | with_reducible refine wpAny_map ?_
    | wp_step))
theorem call0 (F : ExcBaseFacts B newId initId bmB) (hT : bm.contains (.type B) = true ∧ bm.contains (.type "AttributeError") = false ∧ bm.contains (.type "NameError") = false) {rest : List Value} {fI : Addr}
    (hC : h.get? C = some (excClassObj nm q C N bs bm hdct sn sub ab col dd k0 k1 k2 k3 k5 newId))
    (hi : Looks (model prog w) h (typeLookup (.ref C) "__init__") (some (.ref fI))) (hb : ∀ self, Looks (model prog w) h (bindSpecial (.ref fI) self) (.ref fI, [self])) (hrest : rest.length ≤ sizeLine)
    (hq : codeAny (model prog w) (A.under (.builtin "type.__call__" ⟨.ref C :: rest, []⟩)) (.call (.ref fI) ⟨.ref (h.objs.size + 1) :: rest, []⟩) (InitBack (h.objs.size + 1) R)
      ⟨(h.push (kdv_tup rest)).push (PySem.HandSPX.excO C h.objs.size), g, d, t, os⟩) :
    codeAny (model prog w) A (.call (.ref C) ⟨rest, []⟩) R ⟨h, g, d, t, os⟩ := by
  have f1 := tc_lookup
  have f2 := tc_bind (.ref C)
  have hTy : (⟨h, g, d, t, os⟩ : Shared).TypeIs (.ref C) "type" := ⟨_, hC, rfl⟩
  refine codeAny_of_tree ?_
  show wpAny _ _ (callAny (.ref C) _) _ _ _
  repeat (any_goals (first
    | assumption
    | with_reducible refine wpAny_loadPart_at hC ?_
    | wp_step))
  refine ⟨rfl, ?_⟩
  refine codeAny_call_builtin_at (Code.quiet_builtin _ (by decide +kernel)) entry_typeCall (check_type0 hC (type_call0 F hT hC hi hb hrest ?_))
  refine codeAny_mono hq fun r s' z => ?_
  rcases r with e | (v | _ | _ | _) <;> exact z
end
end TS
namespace TS
open PySem PySem.Spec PyProof.Rows PySem.W PySem.Calls L2
/-- the heap with a new error of the class at C, its attribute fld is v -/
def errH (H : Hp) (a dx C : Addr) (fld : Str) (v : V) : Hp := upd (upd H dx (exd dx [(fld, v)])) a (exo a C (some dx))
theorem errH_of {H : Hp} {a dx C : Addr} {fld : Str} {v : V} (ne : dx ≠ a) : upd (upd (upd H a (exo a C none)) dx (exd dx [(fld, v)])) a (exo a C (some dx)) = errH H a dx C fld v := by
  funext b
  unfold errH
  by_cases hb : b = a
  · rw [hb, upd_same, upd_same]
  · rw [upd_ne hb, upd_ne hb]
    by_cases hd : b = dx
    · rw [hd, upd_same, upd_same]
    · rw [upd_ne hd, upd_ne hd, upd_ne hb]
/-- C(e): a new error -/
def tErr (C : Addr) (fld : Str) (te : TE) : TE := fun σ H Q => te σ H fun v H1 => ∀ a dx, H1 a = none → H1 dx = none → dx ≠ a → Q (.ref a) (errH H1 a dx C fld v)
section
variable {X : Cx} {e : Expr} {te : TE} {p pos kpos : Pos} {x arg fld : Str} {C fI : Addr} {k : Nat} {fd : FuncData} {B newId initId : String} {bmB : List Value}
/-- the call of the class, positional -/
theorem run_err {nm qn : Str} {N : Addr} {bs bm sub : List Value} {sn : List Str} {ab : Bool} {col : Option Bool} {dd : Option Addr} {k0 k1 k2 k3 k5 : Option Value} {pins : List (Addr × Obj)} {σ : L2.St} {H1 : Hp} {Q : VK} {s1 : Shared} {v : V} {u : Value}
    (T : ErrK X.K C B newId initId bmB) (hC : X.K.lookup C = some (excClassObj nm qn C N bs bm true sn sub ab col dd k0 k1 k2 k3 k5 newId)) (hbm : excTail bmB bm = true)
    (iC : findIn X.K (.ref C) "__init__" = some (some (.ref fI))) (tI : typeIn X.K (.ref fI) = some (.type "function"))
    (F1 : FnOk X.prog X.w X.K X.mg X.base CX0 k fI fd ["self", arg] (spIni C fld)) (hr : Room (k + 1) X.A) (I1 : Inv X pins σ H1 s1) (rv : RelV v u)
    (hb : ∀ (s2 : Shared) , X.K.In s2.heap → BindsTo s2 fd ⟨[Value.ref (s1.heap.objs.size + 1), u], []⟩ ((["self", arg] : List Str).zip [Value.ref (s1.heap.objs.size + 1), u]))
    (q : ∀ a, H1 a = none → ∀ dx, H1 dx = none → dx ≠ a → Q (.ref a) (errH H1 a dx C fld v)) :
    wpAny (model X.prog X.w) X.A (call (.ref C) [u]) (EP X pins σ Q) X.xe s1 := by
  obtain ⟨Bn, iN, bmN, NF, hB⟩ := T.NF
  have hT : bm.contains (.type Bn) = true ∧ bm.contains (.type "AttributeError") = false ∧ bm.contains (.type "NameError") = false :=
    ⟨(excTail_contains _ bm hbm).trans hB, (excTail_contains _ bm hbm).trans T.noA, (excTail_contains _ bm hbm).trans T.noN⟩
  obtain ⟨hp, g, dr, tk, os⟩ := s1
  have hsz : hp.objs.size ≤ hp.objs.size + 1 := Nat.le_succ _
  have hn : H1 (hp.objs.size + 1) = none := I1.hok.fresh hsz
  have kk : ∀ b o, hp.get? b = some o → ((hp.push (kdv_tup [u])).push (PySem.HandSPX.excO C hp.objs.size)).get? b = some o :=
    fun b o z => Heap.get?_push_of_some _ (Heap.get?_push_of_some _ z)
  have hget : ((hp.push (kdv_tup [u])).push (PySem.HandSPX.excO C hp.objs.size)).get? (hp.objs.size + 1) = some (PySem.HandSPX.excO C hp.objs.size) := by heap_get
  have I2 : Inv X pins σ (upd H1 (hp.objs.size + 1) (exo (hp.objs.size + 1) C none)) ⟨(hp.push (kdv_tup [u])).push (PySem.HandSPX.excO C hp.objs.size), g, dr, tk, os⟩ :=
    I1.laid (t' := tk) (a := hp.objs.size + 1) (o := exo (hp.objs.size + 1) C none) (h' := (hp.push (kdv_tup [u])).push (PySem.HandSPX.excO C hp.objs.size)) kk hsz (exo_ok hget)
  refine wpAny_call (call0 NF hT (I1.kIn _ _ hC) (looks_findIn I1.kIn iC) (fun self => bind_fn I1.kIn self tI) (by show 1 ≤ sizeLine; decide)
    (codeAny_mono (F1.run _ X.stack _ _ ⟨[Value.ref (hp.objs.size + 1), u], []⟩ [Value.ref (hp.objs.size + 1), u] [.ref (hp.objs.size + 1), v] (fun y H2 => y = .non ∧ Q (.ref (hp.objs.size + 1)) H2) (fun _ _ _ => False)
      (hr.make C [u] []) (I2.env0.make C [u] []) (hb _ I2.kIn) (.cons rfl (.cons rv .nil)) ⟨_, v, rfl, upd_same, fun dx hd ne => ⟨rfl, ?_⟩⟩) fun r s' hq' => ?_))
  · rw [errH_of ne]
    exact q _ hn dx (by rw [upd_ne ne] at hd; exact hd) ne
  · cases r with
    | error er => exact hq'.elim
    | ok fl =>
      cases fl with
      | ret u' =>
        obtain ⟨y, H2, J, ry, ey, q2⟩ := I2.after hq'
        subst ey
        exact ⟨ry, .ref _, H2, J, rfl, q2⟩
      | next => exact False.elim hq'
      | brk => exact False.elim hq'
      | cont => exact False.elim hq'
theorem pe_err (T : ErrK X.K C B newId initId bmB) (iC : findIn X.K (.ref C) "__init__" = some (some (.ref fI))) (tI : typeIn X.K (.ref fI) = some (.type "function"))
    (F1 : FnOk X.prog X.w X.K X.mg X.base CX0 k fI fd ["self", arg] (spIni C fld)) (hr : Room (k + 1) X.A) (hb : Binds X.K fd ["self", arg] []) (hg : Gl X x) (hm : X.mg x = some (.ref C)) (he : PE X e te)
    (hdb : (x == ("__debug__" : Str)) = false := by decide) (hs : starEach [e] X.env = (false, eval e X.env) :: starEach [] X.env := by rfl) :
    PE X (.Call (.Name x p) [e] [] pos) (tErr C fld te) := by
  refine ⟨fun pins s σ H Q I h => ?_⟩
  obtain ⟨nm, qn, N, bs, bm, sn, sub, ab, col, dd, k0, k1, k2, k3, k5, hC, hbm⟩ := T.cls
  refine wpAny_Call_Name_kw (ld_glob I hg hm ?_ hdb)
  have hA : PA X [e] (tCons te tNil) := pa_cons he pa_nil hs
  refine callWith_K (h₀ := X.base) I.ok.mod.kin T.kC (thn (hA.run pos pins s σ H (fun vs H1 => match vs with
    | [v] => ∀ a dx, H1 a = none → H1 dx = none → dx ≠ a → Q (.ref a) (errH H1 a dx C fld v)
    | _ => False) I h) fun us s1 ⟨vs, H1, I1, r1, q1⟩ => ⟨I1.kIn, ?_⟩) hs rfl
  obtain ⟨v, u, rfl, rfl, rv⟩ : ∃ v u, vs = [v] ∧ us = [u] ∧ RelV v u := by
    cases r1 with
    | nil => exact q1.elim
    | cons ra rr =>
      cases rr with
      | nil => exact ⟨_, _, rfl, rfl, ra⟩
      | cons _ _ => exact q1.elim
  exact run_err T hC hbm iC tI F1 hr I1 rv (fun hp2 kin => hb _ _ kin rfl) (fun a hn dx hd ne => q1 a dx hn hd ne)
end
end TS
namespace TS
open PySem PySem.Spec PyProof.Rows PySem.W PySem.Calls L2
/-! an own error whose __init__ calls super().__init__(text), raised -/
/-- what is known of such a class: over any built-in base -/
structure ErrC (P : Program) (w : World) (K : Frag) (mg : Str → Option Value) (base : Heap) (x fld : Str) (C : Addr) : Prop where
  made : ∃ (B newId initId : String) (bmB : List Value) (fI : Addr) (fd : FuncData), ErrK K C B newId initId bmB ∧ findIn K (.ref C) "__init__" = some (some (.ref fI)) ∧ typeIn K (.ref fI) = some (.type "function") ∧
    FnOk P w K mg base CX0 1 fI fd ["self", fld] (spIni C fld) ∧ Binds K fd ["self", fld] []
  mgC : mg x = some (.ref C)
  xf : XfC K C
  no : findIn K (.ref C) fld = some none
/-- C(e), made to be raised: the error stands in the air with its dict -/
def tMkErr (C : Addr) (fld : Str) (te : TE) : L2.St → Hp → XK → Prop := fun σ H Q => te σ H fun v H1 => ∀ d, H1 d = none → Q (.ref C) (some d) (upd H1 d (.xd [(fld, v)]))
section
variable {X : Cx} {e : Expr} {te : TE} {p pos : Pos} {x fld : Str} {C : Addr}
theorem air_eq {H : Hp} {a d : Addr} {o : HO} (ha : H a = none) (hd : d ≠ a) {u : HO} : upd (del (upd (upd (upd H a o) d u) a o) a) d (HO.xd []) = upd H d (HO.xd []) := by
  funext b
  by_cases hb : b = d
  · rw [hb, upd_same, upd_same]
  · rw [upd_ne hb, upd_ne hb]
    by_cases hba : b = a
    · rw [hba, del_same, ha]
    · rw [del_ne hba, upd_ne hba, upd_ne hb, upd_ne hba]
theorem pmk_err (E : ErrC X.prog X.w X.K X.mg X.base x fld C) (hr : Room 2 X.A) (hg : Gl X x) (he : PE X e te) (hdb : (x == ("__debug__" : Str)) = false := by decide +kernel) (hs : starEach [e] X.env = (false, eval e X.env) :: starEach [] X.env := by rfl) :
    PMk X (.Call (.Name x p) [e] [] pos) (tMkErr C fld te) := by
  obtain ⟨B, newId, initId, bmB, fI, fd, T, iC, tI, F1, hb⟩ := E.made
  intro pins s σ H Q I h
  obtain ⟨nm, qn, N, bs, bm, sn, sub, ab, col, dd, k0, k1, k2, k3, k5, hC, hbm⟩ := T.cls
  obtain ⟨Bn, iN, bmN, NF, hB⟩ := T.NF
  have hT : bm.contains (.type Bn) = true ∧ bm.contains (.type "AttributeError") = false ∧ bm.contains (.type "NameError") = false :=
    ⟨(excTail_contains _ bm hbm).trans hB, (excTail_contains _ bm hbm).trans T.noA, (excTail_contains _ bm hbm).trans T.noN⟩
  refine wpAny_Call_Name_kw (ld_glob I hg E.mgC ?_ hdb)
  have hA : PA X [e] (tCons te tNil) := pa_cons he pa_nil hs
  refine callWith_K (h₀ := X.base) I.ok.mod.kin T.kC (thn (hA.run pos pins s σ H (fun vs H1 => match vs with
    | [v] => ∀ d, H1 d = none → Q (.ref C) (some d) (upd H1 d (.xd [(fld, v)]))
    | _ => False) I h) fun us s1 ⟨vs, H1, I1, r1, q1⟩ => ⟨I1.kIn, ?_⟩) hs rfl
  obtain ⟨v, u, rfl, rfl, rv⟩ : ∃ v u, vs = [v] ∧ us = [u] ∧ RelV v u := by
    cases r1 with
    | nil => exact q1.elim
    | cons ra rr =>
      cases rr with
      | nil => exact ⟨_, _, rfl, rfl, ra⟩
      | cons _ _ => exact q1.elim
  show wpAny _ _ (call (.ref C) [u]) _ _ _
  obtain ⟨hp, g, dr, tk, os⟩ := s1
  have hsz : hp.objs.size ≤ hp.objs.size + 1 := Nat.le_succ _
  have hn : H1 (hp.objs.size + 1) = none := I1.hok.fresh hsz
  have kk : ∀ b o, hp.get? b = some o → ((hp.push (kdv_tup [u])).push (PySem.HandSPX.excO C hp.objs.size)).get? b = some o :=
    fun b o z => Heap.get?_push_of_some _ (Heap.get?_push_of_some _ z)
  have hget : ((hp.push (kdv_tup [u])).push (PySem.HandSPX.excO C hp.objs.size)).get? (hp.objs.size + 1) = some (PySem.HandSPX.excO C hp.objs.size) := by heap_get
  have I2 : Inv X pins σ (upd H1 (hp.objs.size + 1) (exo (hp.objs.size + 1) C none)) ⟨(hp.push (kdv_tup [u])).push (PySem.HandSPX.excO C hp.objs.size), g, dr, tk, os⟩ :=
    I1.laid (t' := tk) (a := hp.objs.size + 1) (o := exo (hp.objs.size + 1) C none) (h' := (hp.push (kdv_tup [u])).push (PySem.HandSPX.excO C hp.objs.size)) kk hsz (exo_ok hget)
  refine wpAny_call (call0 NF hT (I1.kIn _ _ hC) (looks_findIn I1.kIn iC) (fun self => bind_fn I1.kIn self tI) (by show 1 ≤ sizeLine; decide)
    (codeAny_mono (F1.run _ X.stack _ _ ⟨[Value.ref (hp.objs.size + 1), u], []⟩ [Value.ref (hp.objs.size + 1), u] [.ref (hp.objs.size + 1), v]
      (fun y H2 => y = .non ∧ ∃ dx, H1 dx = none ∧ dx ≠ hp.objs.size + 1 ∧ H2 = upd (upd (upd H1 (hp.objs.size + 1) (exo (hp.objs.size + 1) C none)) dx (exd dx [(fld, v)])) (hp.objs.size + 1) (exo (hp.objs.size + 1) C (some dx))) (fun _ _ _ => False)
      (hr.make C [u] []) (I2.env0.make C [u] []) (hb _ _ I2.kIn rfl) (.cons rfl (.cons rv .nil)) ⟨_, v, rfl, upd_same, fun dx hd ne => ⟨rfl, dx, (by rw [upd_ne ne] at hd; exact hd), ne, rfl⟩⟩) fun r s' hq' => ?_))
  cases r with
  | error er => exact hq'.elim
  | ok fl =>
    cases fl with
    | ret u' =>
      obtain ⟨y, H2, os2, bare2, un2, hok2, ry, ey, dx, hdx, hne, eH⟩ := hq'
      subst ey
      obtain ⟨h2, g2, d2, t2, os'⟩ := s'
      have ea : H2 (hp.objs.size + 1) = some (exo (hp.objs.size + 1) C (some dx)) := by rw [eH, upd_same]
      have ed : H2 dx = some (exd dx [(fld, v)]) := by rw [eH, upd_ne hne, upd_same]
      have ef : upd (del H2 (hp.objs.size + 1)) dx (.xd [(fld, v)]) = upd H1 dx (.xd [(fld, v)]) := by
        rw [eH]
        funext b
        by_cases hb : b = dx
        · rw [hb, upd_same, upd_same]
        · rw [upd_ne hb, upd_ne hb]
          by_cases hba : b = hp.objs.size + 1
          · rw [hba, del_same, hn]
          · rw [del_ne hba, upd_ne hba, upd_ne hb, upd_ne hba]
      refine ⟨ry, mk_end (raises_own T.exC T.tyC) I1 hsz kk un2 hok2 os2 bare2 ea ed hdx ?_⟩
      rw [ef]
      exact q1 dx hdx
    | next => exact False.elim hq'
    | brk => exact False.elim hq'
    | cont => exact False.elim hq'
/-- raise C(e) -/
theorem ps_raiseErr {W : WX} {pos2 : Pos} (E : ErrC X.prog X.w X.K X.mg X.base x fld C) (hc : X.calm = true) (hr : Room 2 X.A) (tk : Takes X W) (hg : Gl X x) (he : PE X e te) (hdb : (x == ("__debug__" : Str)) = false := by decide +kernel) (hs : starEach [e] X.env = (false, eval e X.env) :: starEach [] X.env := by rfl) :
    PS X (.Raise (some (.Call (.Name x p) [e] [] pos)) none pos2) (fun _ σ H => tMkErr C fld te σ H fun cls d H' => W cls d σ H') := ps_raise hc tk (pmk_err E hr hg he hdb hs)
end
end TS
namespace TS
open PySem L2
abbrev sIsPlace : Stmt := top 98
abbrev sWithD : Stmt := top 99
abbrev sGDelay : Stmt := (inClass (top 100) 15)
theorem iteTe {b : Bool} {X Y : Prop} (h : b = true) (x : X) : if b = true then X else Y := by rw [if_pos h]; exact x
theorem iteFe {b : Bool} {X Y : Prop} (h : b = false) (y : Y) : if b = true then X else Y := by rw [if_neg (by rw [h]; exact Bool.false_ne_true)]; exact y
/-- whether a name and an index are one of the places -/
def plIn (pls : List (Str × Nat)) (n : Str) (i : Int) : Bool := pls.any fun x => decide (x.1 = n) && decide ((x.2 : Int) = i)
theorem plIn_nat {pls : List (Str × Nat)} {n : Str} {i : Nat} : plIn pls n (i : Int) = decide ((n, i) ∈ pls) := by
  unfold plIn
  rw [Bool.eq_iff_iff, List.any_eq_true, decide_eq_true_iff]
  constructor
  · rintro ⟨x, hx, e⟩
    rw [Bool.and_eq_true, decide_eq_true_iff, decide_eq_true_iff] at e
    have : x = (n, i) := Prod.ext e.1 (by have := e.2; show x.2 = i; omega)
    rw [← this]
    exact hx
  · intro h
    exact ⟨_, h, by simp⟩
/-- a value and whether it is one of the places -/
inductive PlCase (K : PySem.W.Frag) (H : Hp) (pls : List (Str × Nat)) : V → Bool → Prop
  | pair {t : Addr} {n : Str} {i : Int} (h : H t = some (.tup [.str n, .int i])) (pl : Plain n) : PlCase K H pls (.ref t) (plIn pls n i)
  | other {v : V} {ty : Value} (ty_ : TyX K H v ty) (k : PySem.W.kitOne K ty (.type "tuple") = some false) : PlCase K H pls v false
  | size {t : Addr} {xs : List V} (h : H t = some (.tup xs)) (n : xs.length ≠ 2) : PlCase K H pls (.ref t) false
  | noStr {t : Addr} {x y : V} {ty : Value} (h : H t = some (.tup [x, y])) (ty_ : TyX K H x ty) (k : PySem.W.kitOne K ty (.type "str") = some false) : PlCase K H pls (.ref t) false
  | noNum {t : Addr} {n : Str} {y : V} {ty : Value} {b c : Bool} (h : H t = some (.tup [.str n, y])) (ty_ : TyX K H y ty) (kb : PySem.W.kitOne K ty (.type "int") = some b) (kc : PySem.W.kitOne K ty (.type "bool") = some c) (e : (b && !c) = false) : PlCase K H pls (.ref t) false
theorem PlCase.same {K : PySem.W.Frag} {H H' : Hp} {pls : List (Str × Nat)} {v : V} {b : Bool} (h : PlCase K H pls v b) (s : Same H H') : PlCase K H' pls v b := by
  cases h with
  | pair h pl => exact .pair (s _ _ h) pl
  | other t k => exact .other (TyX.sameX0 t s) k
  | size h n => exact .size (s _ _ h) n
  | noStr h t k => exact .noStr (s _ _ h) (TyX.sameX0 t s) k
  | noNum h t kb kc e => exact .noNum (s _ _ h) (TyX.sameX0 t s) kb kc e
def plD (x : Str × Nat) : PyData := .tuple [.str x.1, .int x.2]
theorem plD_dp {K : PySem.W.Frag} {H : Hp} : ∀ {ys : List V} {pls : List (Str × Nat)}, Each PlV H ys pls → DpAll K H ys (pls.map plD)
  | [], [], _ => .nil
  | [], _ :: _, h => by cases h.1
  | _ :: _, [], h => by cases h.1
  | y :: ys, x :: pls, h => by
    obtain ⟨t, rfl, e⟩ := h.2 0 y x rfl rfl
    exact .cons (.tup (SqT.of e) (.cons (.str _) (.cons (.int _) .nil))) (plD_dp ⟨by have := h.1; simpa using this, fun i v t a b => h.2 (i + 1) v t (by simpa using a) (by simpa using b)⟩)
theorem plD_lay : ∀ {pls : List (Str × Nat)}, (∀ x ∈ pls, Plain x.1) → PyData.canLayAll0 (pls.map plD) = true
  | [], _ => by simp [PyData.canLayAll0]
  | x :: pls, h => by
    have h1 := h x (by simp)
    have ih := plD_lay (pls := pls) fun y hy => h y (by simp [hy])
    simp [PyData.canLayAll0, plD, PyData.canLay0, h1.ok, ih]
theorem plD_dep : ∀ (pls : List (Str × Nat)), PyData.depthAll (pls.map plD) ≤ 10
  | [] => by simp [PyData.depthAll]
  | x :: pls => by
    have ih := plD_dep pls
    simp only [List.map_cons, PyData.depthAll, plD, PyData.depth]
    omega
theorem plD_any (pls : List (Str × Nat)) (n : Str) (i : Int) : (pls.map plD).any (fun z => PyData.eqv z (.tuple [.str n, .int i])) = plIn pls n i := by
  unfold plIn
  rw [List.any_map]
  congr 1
  funext x
  simp only [Function.comp, plD, PyData.eqv, PyData.eqvAll, Bool.and_true]
  by_cases h1 : x.1 = n <;> by_cases h2 : (x.2 : Int) = i <;> simp [h1, h2]
section
variable {P : Program} {w : World} {K : PySem.W.Frag} {mg : Str → Option Value} {base : Heap}
abbrev nmIsPlace : List Str := ["value", "places", "name", "index"]
theorem scIsPlace : FnScope nmIsPlace ["value", "places"] (defScope sIsPlace) := ⟨rfl, rfl, rfl, by decide +kernel, rfl, by decide +kernel, by decide +kernel⟩
def spIsPlace (K : PySem.W.Frag) : Sp := fun vs H Q _ => ∃ (v : V) (q : Addr) (ys : List V) (pls : List (Str × Nat)) (b : Bool), vs = [v, .ref q] ∧ H q = some (.lst ys) ∧ Each PlV H ys pls ∧ (∀ x ∈ pls, Plain x.1) ∧ PlCase K H pls v b ∧ ∀ H', Same H H' → Q (.bl b) H'
theorem ok_isplace {f : Addr} {fd : FuncData} (F : Fun K "_is_place" "_is_place" sIsPlace f fd) (T : BltT mg) (D1 : Has P w K mg base "is_number" 1 ["value"] (spNum K)) : FnOk P w K mg base CX0 2 f fd ["value", "places"] (spIsPlace K) := by
  obtain ⟨f1, fd1, m1, k1, b1, G1⟩ := D1
  refine F.ok scIsPlace (fun vs H Q E h => ?_) (fun cdv A outer s H vs Q E hr h => ?_)
  · obtain ⟨v, q, ys, pls, b, rfl, _⟩ := h
    rfl
  obtain ⟨v, lq, ys, pls, b, rfl, hq, hE, hpl, hc, q⟩ := h
  have hu65 : (A.deeper (PyProof.Rows.envOfC "_is_place" (defScope sIsPlace) s.heap.objs.size f cdv)).units + 65 < cLine := by
    have := hr.un
    omega
  refine ⟨_, pss_cons (ps_if (PW.pt (pw_or (pt_not (pt_val (pe_callB call_isi (by rfl) T.isi bIsi (pa_cons (pv 0) (pa_cons (pe_bltn (by rfl) T.tup (v := .ty "tuple") (by decide +kernel) rfl) pa_nil))))) (pw_or1 (pt_cmpR op_ne (pe_callB call_len_seq (by rfl) T.len PySem.boot_len (pa_cons (pv 0) pa_nil)) pe_int (nomark _))))) (pss_one (ps_ret pe_bl)) pss_nil)
    (pss_cons (ps_asg (pv 0) (pg_tup (by rfl) (pgs_cons (pg_name (i := 2) scIsPlace.nd rfl (.inl rfl)) (pgs_cons (pg_name (i := 3) scIsPlace.nd rfl (.inl rfl)) pgs_nil))))
    (pss_one (ps_ret (pe_and (pe_callB call_isi (by rfl) T.isi bIsi (pa_cons (pv 2) (pa_cons (pe_bltn (by rfl) T.str (v := .ty "str") (by decide +kernel) rfl) pa_nil))) (pe_and (pe_call G1 hr rfl m1 k1 b1 .nil pass0 (pa_cons (pv 3) pa_nil))
      (pe_one (pe_cmpR (op_inD hu65) (pe_tup (pa_cons (pv 2) (pa_cons (pv 3) pa_nil))) (pv 1) (by rfl)))))))), ?_⟩
  cases hc with
  | other ty k =>
    exact ⟨_, rfl, _, _, _, _, _, rfl, .ty "tuple", ty, k, _, rfl, iteT (iteT (q H (Same.refl _)))⟩
  | size h n =>
    refine ⟨_, rfl, _, _, _, _, _, rfl, .ty "tuple", .base (.tup h), kit_ty (r := true) (by decide +kernel), _, rfl, iteF ?_⟩
    refine ⟨_, rfl, _, _, rfl, .inr (SqT.of h), rfl, _, rfl, ?_⟩
    exact iteTe (by simp; omega) (q H (Same.refl _))
  | noStr h ty k =>
    refine ⟨_, rfl, _, _, _, _, _, rfl, .ty "tuple", .base (.tup h), kit_ty (r := true) (by decide +kernel), _, rfl, iteF ?_⟩
    refine ⟨_, rfl, _, _, rfl, .inr (SqT.of h), rfl, _, rfl, ?_⟩
    refine iteF ⟨_, rfl, _, _, rfl, SqT.of h, rfl, _, _, rfl, _, _, rfl, rfl, ?_⟩
    exact ⟨_, rfl, _, _, _, _, _, rfl, .ty "str", ty, k, _, rfl, iteF (q H (Same.refl _))⟩
  | noNum h ty kb kc e =>
    refine ⟨_, rfl, _, _, _, _, _, rfl, .ty "tuple", .base (.tup h), kit_ty (r := true) (by decide +kernel), _, rfl, iteF ?_⟩
    refine ⟨_, rfl, _, _, rfl, .inr (SqT.of h), rfl, _, rfl, ?_⟩
    refine iteF ⟨_, rfl, _, _, rfl, SqT.of h, rfl, _, _, rfl, _, _, rfl, rfl, ?_⟩
    refine ⟨_, rfl, _, _, _, _, _, rfl, .ty "str", .base (.str _), kit_ty (r := true) (by decide +kernel), _, rfl, iteT ?_⟩
    refine ⟨_, rfl, _, _, _, _, rfl, ty, kb, kc, _, rfl, ?_⟩
    exact iteFe e (q H (Same.refl _))
  | pair h pl =>
    refine ⟨_, rfl, _, _, _, _, _, rfl, .ty "tuple", .base (.tup h), kit_ty (r := true) (by decide +kernel), _, rfl, iteF ?_⟩
    refine ⟨_, rfl, _, _, rfl, .inr (SqT.of h), rfl, _, rfl, ?_⟩
    refine iteF ⟨_, rfl, _, _, rfl, SqT.of h, rfl, _, _, rfl, _, _, rfl, rfl, ?_⟩
    refine ⟨_, rfl, _, _, _, _, _, rfl, .ty "str", .base (.str _), kit_ty (r := true) (by decide +kernel), _, rfl, iteT ?_⟩
    refine ⟨_, rfl, _, _, true, false, rfl, .base (.int _), kit_ty (by decide +kernel), kit_ty (by decide +kernel), _, rfl, iteT ?_⟩
    refine ⟨_, rfl, _, rfl, by show 2 ≤ sizeLine; decide, fun tp htp => ?_⟩
    rename_i n i
    have s1 : Same H (upd H tp (.tup [.str n, .int i])) := same_upd htp _
    refine ⟨_, rfl, .tuple [.str n, .int i], pls.map plD, .tup (SqT.of upd_same) (.cons (.str _) (.cons (.int _) .nil)), .lst (SqL.of (s1 _ _ hq)) (plD_dp (hE.imp fun v x h => h.same s1)), shaped_mk (by simp [PyData.canLay0, PyData.canLayAll0, pl.ok]) (by simp [PyData.depth, PyData.depthAll]), shaped_mk (by rw [PyData.canLay0]; exact plD_lay hpl) (by have := plD_dep pls; simp only [PyData.depth]; omega), ?_⟩
    rw [plD_any]
    exact q _ s1
/-! _with_delays -/
/-- Process.delayed reached off an object -/
def HasDel (P : Program) (w : World) (K : PySem.W.Frag) (mg : Str → Option Value) (base : Heap) (PC CD C : Addr) : Prop :=
  ∃ g, BMeth K PC "delayed" g ∧ FnR P w K mg base CX0 21 g (fun vs H Q E => ∃ ws rest, vs = ws ++ rest ∧ ws.length = (["self"] : List Str).length ∧ rest.length ≤ sizeLine ∧ ∀ p, H p = Option.none → spPDelay PC CD C (ws ++ [V.ref p]) (upd H p (.tup rest)) Q E)
abbrev nmWithD : List Str := ["process", "places", "indices", "name", "index"]
theorem scWithD : FnScope nmWithD ["process", "places"] (defScope sWithD) := ⟨rfl, rfl, rfl, by decide +kernel, rfl, by decide +kernel, by decide +kernel⟩
def spWithD (PC CD C : Addr) : Sp := fun vs H Q _ => ∃ (a q : Addr) (p : ProcD) (xs : List V) (pls : List (Str × Nat)) (Ds : List Addr), vs = [.ref a, .ref q] ∧ Lists Ds H ∧ POff PC CD C Ds H a p ∧ RowAt H q xs ∧ Each PlV H xs pls ∧ pls.length ≤ 900 ∧ (∀ x ∈ pls, x.1 = p.name → x.2 < p.ds.length) ∧
  ∀ H' b, Same H H' → POff PC CD C Ds H' b (lateIn pls p) → Q (.ref b) H'
theorem ok_withd {PC CD C f : Addr} {fd : FuncData} (F : Fun K "_with_delays" "_with_delays" sWithD f fd) (PK : ProcK K mg PC) (PN : HasP P w K mg base PC "name" 1 (spPName PC CD C)) (HD : HasDel P w K mg base PC CD C) : FnOk P w K mg base CX0 22 f fd ["process", "places"] (spWithD PC CD C) := by
  obtain ⟨p1, g1, fd1, h1, b1, G1⟩ := PN
  obtain ⟨g2, B2, G2⟩ := HD
  refine F.ok scWithD (fun vs H Q E h => ?_) (fun cdv A outer s H vs Q E hr h => ?_)
  · obtain ⟨a, q, p, xs, pls, Ds, rfl, _⟩ := h
    rfl
  obtain ⟨a, q, p, xs, pls, Ds, rfl, hDs, hp, hx, hE, l9, hix, k⟩ := h
  have r2 : Room 2 _ := hr.mono (by decide)
  refine ⟨_, pss_cons (ps_setLc (i := 2) (own := [("name", 3), ("index", 4)]) (g := gTup K 2 (gCons (gName 3) (gCons (gName 4) gNil))) (tt := tTest (tOp rEq (tVar 3) (tProp PC (spPName PC CD C) [] E0 (tVar 0)))) (te := tVar 4) (by rfl) scWithD.nd rfl rfl (sw_true rfl rfl rfl (by decide +kernel)) (pi_row (pv 1)) (blkOk_by (own := [("name", 3), ("index", 4)]) (N := nmWithD) (sc := defScope sWithD) (by decide +kernel)) (fun _ _ _ _ _ => pg_tup (by rfl) (pgs_cons (pg_name (i := 3) scWithD.nd rfl (Or.inl rfl)) (pgs_cons (pg_name (i := 4) scWithD.nd rfl (Or.inl rfl)) pgs_nil)))
      (fun _ _ _ _ _ => pts_one (pt_cmpR op_eq (pv 3) (pe_prop (pv 0) PK.cl h1 G1 r2 b1 .nil pass0 rfl) (nomark _)))
      (fun _ _ _ _ _ => pv 4))
    (pss_one (ps_ret (pe_methL (pv 0) PK.cl B2 G2 hr pass0 (pv 2)))), ?_⟩
  have lx : xs.length = pls.length := hE.1
  refine ⟨_, rfl, q, xs, rfl, hx, fun J w0 D hD => lc_it w0 (fun i G => Same H G ∧ G D = some (.lst (((pls.take i).filter fun x => decide (x.1 = p.name)).map fun x => V.int x.2))) ⟨same_upd hD _, upd_same⟩ (fun i G _ z => ?_) (fun i x G G' hi z hy => ?_) (fun G z => ?_)⟩
  · rcases hx with h | h
    · exact (z.1 _ _ h).trans h.symm
    · exact (z.1 _ _ h).trans h.symm
  · obtain ⟨sG, dG⟩ := z
    obtain ⟨rfl, hxi⟩ := hy
    have hpi : pls[i]? = some (pls[i]'(by omega)) := List.getElem?_eq_getElem _
    obtain ⟨t, rfl, ht⟩ := hE.2 i x _ hxi hpi
    generalize pls[i]'(by omega) = y at hpi ht
    have pa := (hp.off (Same.off sG)).now
    obtain ⟨_, dx, lw, ld, lr, lt, lc, _, _, _, _, hina, _⟩ := id pa
    refine ⟨_, _, rfl, SqT.of (sG _ _ ht), rfl, _, _, rfl, _, _, rfl, rfl, rfl, ?_⟩
    refine ⟨_, rfl, _, rfl, a, dx, _, rfl, hina, a, p, rfl, pa, rfl, _, rfl, ?_⟩
    rw [dec_str, take_snoc hpi, List.filter_append, List.map_append]
    by_cases c : y.1 = p.name
    · rw [decide_eq_true c]
      refine iteT ⟨_, rfl, _, dG, ?_, fun b o e => ?_, ?_⟩
      · rw [List.length_map]
        refine small1000 (Nat.le_trans (List.length_filter_le _ _) ?_)
        rw [List.length_take]
        omega
      · rw [upd_ne (ne_of_none e hD)]
        exact sG b o e
      · rw [upd_same, List.filter_cons, if_pos (by simpa using c)]
        rfl
    · rw [decide_eq_false c]
      refine iteF ⟨sG, ?_⟩
      rw [dG, List.filter_cons, if_neg (by simpa using c)]
      simp
  · obtain ⟨sG, dG⟩ := z
    rw [lx, List.take_length] at dG
    have pa := hp.off (Same.off sG)
    obtain ⟨_, dx, lw, ld, lr, lt, lc, _, _, _, _, hina, _⟩ := id pa.now
    refine ⟨_, rfl, a, dx, _, rfl, hina, pfs_no (by decide +kernel), fun m hm => ?_⟩
    have s1 : Same G (upd G m (.met g2 a)) := same_upd hm _
    refine ⟨_, rfl, D, _, rfl, .inr (SqL.of (s1 _ _ dG)), upd_same, [.ref a], _, rfl, rfl, ?_, fun t ht => ?_⟩
    · rw [List.length_map]
      exact Nat.le_trans (Nat.le_trans (List.length_filter_le _ _) l9) (by decide)
    have s2 : Same G (upd (upd G m (.met g2 a)) t (.tup ((pls.filter fun x => decide (x.1 = p.name)).map fun x => V.int x.2))) := s1.trans (same_upd ht _)
    refine ⟨a, t, p, (pls.filter fun x => decide (x.1 = p.name)).map fun x => (x.2 : Int), Ds, rfl, ?_, lists_same hDs (sG.trans s2), pa.off (Same.off s2), fun i hi => ?_, fun H' b s3 hP => k H' b ((sG.trans s2).trans s3) ?_⟩
    · rw [upd_same, List.map_map]
      rfl
    · obtain ⟨x, hx', rfl⟩ := List.mem_map.mp hi
      obtain ⟨h1', h2'⟩ := List.mem_filter.mp hx'
      have := hix x h1' (of_decide_eq_true h2')
      omega
    · have e : (p.lateAt fun i => decide ((i : Int) ∈ (pls.filter fun x => decide (x.1 = p.name)).map fun x => (x.2 : Int))) = lateIn pls p := by
        unfold lateIn
        congr 1
        funext i
        refine decide_eq_decide.mpr ⟨fun h => ?_, fun h => ?_⟩
        · obtain ⟨x, hx', e⟩ := List.mem_map.mp h
          obtain ⟨h1', h2'⟩ := List.mem_filter.mp hx'
          have : x = (p.name, i) := Prod.ext (of_decide_eq_true h2') (by show x.2 = i; omega)
          rw [← this]
          exact h1'
        · exact List.mem_map.mpr ⟨_, List.mem_filter.mpr ⟨h, by simp⟩, rfl⟩
      rw [e] at hP
      exact hP
end
end TS
namespace TS
open PySem PySem.Spec PyProof.Rows L2
/-! C(..), an own class whose `__init__` may raise, E at the caller's slots -/
def tMakeE (C : Addr) (sp : Sp) (E : L2.St → XK) (t : TA) : TE := fun σ H Q => t σ H fun vs H1 => ∀ x dx, H1 x = none → H1 dx = none → dx ≠ x →
  sp (.ref x :: vs) (upd (upd H1 dx (.own x)) x (.ins C dx [])) (fun v H2 => v = .non ∧ Q (.ref x) H2) (E σ)
section
variable {X : Cx} {CX : CXT} {k : Nat} {C f : Addr} {fd : FuncData} {ps : List Str} {sp : Sp} {x : Str} {e : Expr} {es : List Expr} {p pos : Pos} {t : TA}
theorem run_makeS {E : L2.St → XK} {pins : List (Addr × Obj)} {σ : L2.St} {H : Hp} {s : Shared} {Q : VK} {us : List Value} {vs : List V} (M : Mk X.K C f) (F : FnOk X.prog X.w X.K X.mg X.base CX k f fd ps sp) (hr : Room (k + 1) X.A) (hb : Binds X.K fd ps []) (hx : PassesAt CX X σ (E σ)) (I : Inv X pins σ H s) (r : Vals vs us)
    (q : ∀ x dx, H x = none → H dx = none → dx ≠ x → sp (.ref x :: vs) (upd (upd H dx (.own x)) x (.ins C dx [])) (fun v H2 => v = .non ∧ Q (.ref x) H2) (E σ)) :
    wpAny (model X.prog X.w) X.A (call (.ref C) us) (EP X pins σ Q) X.xe s := by
  have hn : H (s.heap.objs.size) = none := I.hok.fresh (Nat.le_refl _)
  have hn1 : H (s.heap.objs.size + 1) = none := I.hok.fresh (Nat.le_succ _)
  have tI : PySem.W.typeIn X.K (.ref f) = some (.type "function") := by
    have := M.fn
    unfold PySem.W.isFn at this
    simpa using this
  have I2 := I.made (C := C)
  have q2 := q (s.heap.objs.size + 1) s.heap.objs.size hn1 hn (Nat.ne_of_lt (Nat.lt_succ_self _))
  have r2 : Vals (.ref (s.heap.objs.size + 1) :: vs) (Value.ref (s.heap.objs.size + 1) :: us) := .cons rfl r
  have r3 := r2.append (.nil : Vals [] [])
  have hl : ((Value.ref (s.heap.objs.size + 1) :: us) ++ []).length = ps.length := by
    rw [← r3.length, List.append_nil]
    exact F.len _ _ _ _ q2
  have q3 : sp ((.ref (s.heap.objs.size + 1) :: vs) ++ []) (upd (upd H s.heap.objs.size (.own (s.heap.objs.size + 1))) (s.heap.objs.size + 1) (.ins C s.heap.objs.size [])) (fun v H2 => v = .non ∧ Q (.ref (s.heap.objs.size + 1)) H2) (E σ) := by
    rw [List.append_nil]
    exact q2
  refine wpAny_call (make_map I.kIn M.makes M.init tI (codeAny_mono (F.run _ X.stack _ _ ⟨Value.ref (s.heap.objs.size + 1) :: us, []⟩ ((Value.ref (s.heap.objs.size + 1) :: us) ++ []) _ _ (E σ) (hr.make C us []) (I2.env0.make C us []) (hb _ _ I2.kIn hl) r3 q3) fun r' s' hq => ?_))
  cases r' with
  | error er => exact hx pins _ _ er s' I2 hq
  | ok fl =>
    cases fl with
    | ret u =>
      obtain ⟨v, H2, I3, rv, ev, qq⟩ := I2.after hq
      subst ev
      obtain rfl : u = Value.none := rv
      exact ⟨rfl, .ref (s.heap.objs.size + 1), H2, I3, rfl, qq⟩
    | next => exact False.elim hq
    | brk => exact False.elim hq
    | cont => exact False.elim hq
theorem pe_makeE {E : L2.St → XK} (M : Mk X.K C f) (F : FnOk X.prog X.w X.K X.mg X.base CX k f fd ps sp) (hr : Room (k + 1) X.A) (hg : Gl X x) (hm : X.mg x = some (.ref C)) (hb : Binds X.K fd ps []) (hx : ∀ σ, PassesAt CX X σ (E σ)) (ha : PA X (e :: es) t)
    (hdb : (x == ("__debug__" : Str)) = false := by decide +kernel) (he : starEach (e :: es) X.env = (false, eval e X.env) :: starEach es X.env := by rfl) (hpl : (backTo pos (starEach es X.env)).any (·.1) = false := by rfl) :
    PE X (.Call (.Name x p) (e :: es) [] pos) (tMakeE C sp E t) := by
  refine ⟨fun pins s σ H Q I h => ?_⟩
  refine wpAny_Call_Name_kw (ld_glob I hg hm ?_ hdb)
  exact PySem.W.callWith_K (h₀ := X.base) I.ok.mod.kin M.kp (thn (ha.run pos pins s σ H _ I h) fun us s1 ⟨vs, H1, I1, r, q⟩ => ⟨I1.kIn, run_makeS M F hr hb (hx σ) I1 r q⟩) he hpl
end
end TS
namespace TS
open PySem L2
section
variable {P : Program} {w : World} {K : PySem.W.Frag} {mg : Str → Option Value} {base : Heap}
/-- a def that may raise -/
def HasX (P : Program) (w : World) (K : PySem.W.Frag) (mg : Str → Option Value) (base : Heap) (name : Str) (k : Nat) (ps : List Str) (sp : Sp) : Prop :=
  ∃ (f : Addr) (fd : FuncData), mg name = some (.ref f) ∧ PySem.W.keepIn K (.ref f) = true ∧ Binds K fd ps [] ∧ FnOk P w K mg base (L2.CX P w) k f fd ps sp
/-- what makes no term -/
def NoTree (K : PySem.W.Frag) (C : Addr) (H : Hp) (x : V) : Prop := (∃ z : Str, x = .str z ∧ z.length ≤ 100000 ∧ treeOf z = none) ∨
  (∃ (tx : Value) (i b : Bool), TyX K H x tx ∧ PySem.W.kitOne K tx (.ref C) = some false ∧ PySem.W.kitOne K tx (.type "str") = some false ∧ PySem.W.kitOne K tx (.type "int") = some i ∧ PySem.W.kitOne K tx (.type "bool") = some b ∧
      (((i && !b) = true ∧ ∃ n : Int, x = .int n ∧ ¬ (0 ≤ n ∧ n ≤ 9)) ∨ (i && !b) = false))
def spNeedX (K : PySem.W.Frag) (C N : Addr) : Sp := fun vs H Q E => ∃ x : V, vs = [x] ∧
  ((∃ t : Tr, Makes C H x t ∧ t.fine ∧ t.deep ≤ 3 ∧ ∀ (H' : Hp) (v : V), Same H H' → TrAt H' v t → Q v H') ∨
   (NoTree K C H x ∧ ∀ H1 d, Same H H1 → H1 d = none → E (.ref N) (some d) (upd H1 d (.xd [("value", x)]))))
theorem ok_needX {C N f fx : Addr} {fd fdx : FuncData} (F : Fun K "_needed_tree" "_needed_tree" sNeed f fd) (T : BltT mg) (TK : TermK K mg C) (EN : ErrC P w K mg base "NoTerm" "value" N)
    (FX : Fun K "_tree_of" "_tree_of" sTreeOf fx fdx) (bx : Binds K fdx ["value"] []) (mx : mg "_tree_of" = some (.ref fx)) (GX : FnOk P w K mg base CX0 10 fx fdx ["value"] (spTreeOf K C)) : FnOk P w K mg base (L2.CX P w) 11 f fd ["value"] (spNeedX K C N) := by
  refine F.okX scNeed (fun vs H Q E h => ?_) (fun cdv A outer s H vs Q E hr h => ?_)
  · obtain ⟨x, rfl, _⟩ := h
    rfl
  obtain ⟨x, rfl, h⟩ := h
  refine ⟨_, pss_cons (ps_set (i := 1) scNeed.nd rfl (.inl rfl) (pe_call GX hr rfl mx FX.kp bx .nil pass0 (pa_cons (pv 0) pa_nil)))
    (pss_cons (ps_if (pt_cmpR op_isN (pv 1) pe_non (nomark _)) (pss_one (ps_raiseErr (W := fun cls d _ H => E cls d H) EN rfl (hr.mono (by decide)) (takes_of rfl rfl rfl rfl) rfl (pv 0))) pss_nil)
    (pss_one (ps_ret (pv 1)))), ?_⟩
  refine ⟨_, rfl, x, rfl, ?_⟩
  rcases h with ⟨t, hm, hf, hd, q⟩ | ⟨hb, q⟩
  · rcases hm with rfl | ⟨n, rfl, rfl⟩ | ⟨a, rfl, ha⟩
    · refine .inl ⟨t.text, rfl, Nat.le_trans (text315 hf hd) (by decide), ?_⟩
      rw [treeOf_text hf hd]
      intro H' v s h
      refine ⟨_, rfl, rfl, _, rfl, ?_⟩
      rw [ref_ne h]
      exact iteF ⟨_, rfl, q H' v s h⟩
    · refine .inr (.inr ⟨_, true, false, .base (.int n), TK.kInt, kit_ty (by decide +kernel), kit_ty (by decide +kernel), kit_ty (by decide +kernel), .inl ⟨rfl, n, rfl, ?_⟩⟩)
      rw [if_pos ⟨hf.1, hf.2⟩]
      exact ⟨_, rfl, rfl, _, rfl, iteF ⟨_, rfl, q H _ (Same.refl H) (.num n)⟩⟩
    · refine .inr (.inl ⟨a, t, rfl, ha, fun v h => ?_⟩)
      refine ⟨_, rfl, rfl, _, rfl, ?_⟩
      rw [ref_ne h]
      exact iteF ⟨_, rfl, q H v (Same.refl H) h⟩
  · have bad : ∀ H1, Same H H1 → ∀ d, H1 d = none → E (.ref N) (some d) (upd H1 d (.xd [("value", x)])) := fun H1 s1 d hd => q H1 d s1 hd
    rcases hb with ⟨z, rfl, hz, e⟩ | ⟨tx, i, b, h1, h2, h3, h4, h5, h6⟩
    · refine .inl ⟨z, rfl, hz, ?_⟩
      rw [e]
      intro H1 s1
      exact ⟨_, rfl, rfl, _, rfl, iteT ⟨_, rfl, bad H1 s1⟩⟩
    · refine .inr (.inr ⟨tx, i, b, h1, h2, h3, h4, h5, ?_⟩)
      rcases h6 with ⟨e, n, rfl, hn⟩ | e
      · refine .inl ⟨e, n, rfl, ?_⟩
        rw [if_neg hn]
        exact ⟨_, rfl, rfl, _, rfl, iteT ⟨_, rfl, bad H (Same.refl H)⟩⟩
      · exact .inr ⟨e, _, rfl, rfl, _, rfl, iteT ⟨_, rfl, bad H (Same.refl H)⟩⟩
/-! Term.__init__, also where it raises -/
def spTInitX (K : PySem.W.Frag) (C N : Addr) : Sp := fun vs H Q E => ∃ (p dx : Addr) (x : V), vs = [.ref p, x] ∧ H p = some (.ins C dx []) ∧
  ((∃ t : Tr, Makes C H x t ∧ t.fine ∧ t.deep ≤ 3 ∧ ∀ H', SameX p H H' → (∀ Ds, Lists Ds H → ∀ G, SameOff Ds H' G → TermAt C G p t) → Q .non H') ∨
   (NoTree K C H x ∧ ∀ H1 d, Same H H1 → H1 d = none → E (.ref N) (some d) (upd H1 d (.xd [("value", x)]))))
theorem ok_tinitX {C N f : Addr} {fd : FuncData} (F : Fun K "__init__" "Term.__init__" sTInit f fd) (T : BltT mg) (TK : TermK K mg C)
    (D1 : HasX P w K mg base "_needed_tree" 11 ["value"] (spNeedX K C N)) (D2 : Has P w K mg base "_text_of" 3 ["tree"] (spText 3)) (D3 : Has P w K mg base "_depth_of" 3 ["tree"] (spDepth 3)) (D4 : Has P w K mg base "_kind_of" 1 ["tree"] spKind)
    (D5 : Has P w K mg base "_leaves_of" 3 ["tree"] (spLeaves 3)) (D6 : Has P w K mg base "ascending" 1 ["values"] spAsc) : FnOk P w K mg base (L2.CX P w) 12 f fd ["self", "value"] (spTInitX K C N) := by
  obtain ⟨f1, fd1, m1, k1, b1, G1⟩ := D1
  obtain ⟨f2, fd2, m2, k2, b2, G2⟩ := D2
  obtain ⟨f3, fd3, m3, k3, b3, G3⟩ := D3
  obtain ⟨f4, fd4, m4, k4, b4, G4⟩ := D4
  obtain ⟨f5, fd5, m5, k5, b5, G5⟩ := D5
  obtain ⟨f6, fd6, m6, k6, b6, G6⟩ := D6
  refine F.okX scTInit (fun vs H Q E h => ?_) (fun cdv A outer s H vs Q E hr h => ?_)
  · obtain ⟨p, dx, x, rfl, _⟩ := h
    rfl
  obtain ⟨p, dx, x, rfl, hp, h⟩ := h
  have r3 : Room 3 _ := hr.mono (by decide)
  have r1 : Room 1 _ := hr.mono (by decide)
  refine ⟨_, pss_cons (ps_set (i := 2) scTInit.nd rfl (.inl rfl) (pe_callS (E := WE (fun cls d _ H => E cls d H)) G1 hr rfl m1 k1 b1 (fun σ => passAt (takes_of rfl rfl rfl rfl) σ) (pa_cons (pv 1) pa_nil)))
    (pss_cons (ps_fld (pv 0) (pv 2) rfl)
    (pss_cons (ps_fld (pv 0) (pe_call G2 r3 rfl m2 k2 b2 .nil pass0 (pa_cons (pv 2) pa_nil)) rfl)
    (pss_cons (ps_fld (pv 0) (pe_call G3 r3 rfl m3 k3 b3 .nil pass0 (pa_cons (pv 2) pa_nil)) rfl)
    (pss_cons (ps_fld (pv 0) (pe_call G4 r1 rfl m4 k4 b4 .nil pass0 (pa_cons (pv 2) pa_nil)) rfl)
    (pss_cons (ps_fld (pv 0) (pe_call G5 r3 rfl m5 k5 b5 .nil pass0 (pa_cons (pv 2) pa_nil)) rfl)
    (pss_cons (ps_fld (pv 0) (pe_call G6 r1 rfl m6 k6 b6 .nil pass0 (pa_cons
      (pe_lc (own := [("leaf", 3)]) (g := gName 3) (tt := tTest (tCB (rIsi K) (tCons (tVar 3) (tCons (tC (.ty "str")) tNil)))) (by rfl) scTInit.nd (pi_list (pe_fld (pv 0) rfl)) (blkOk_by (own := [("leaf", 3)]) (N := nmTInit) (sc := defScope sTInit) (by decide +kernel)) (fun _ _ _ _ _ => pg_name (i := 3) scTInit.nd rfl (Or.inl rfl))
        (fun _ _ _ _ _ => pts_one (pt_val (pe_callB call_isi (by rfl) T.isi bIsi (pa_cons (pv 3) (pa_cons (pe_bltn (by rfl) T.str (v := .ty "str") (by decide +kernel) rfl) pa_nil))))) (fun _ _ _ _ _ => pv 3)) pa_nil)) rfl)
    (pss_one (ps_fld (pv 0) (pe_call G6 r1 rfl m6 k6 b6 .nil pass0 (pa_cons
      (pe_lc (own := [("leaf", 3)]) (g := gName 3) (tt := tNot (tTest (tCB (rIsi K) (tCons (tVar 3) (tCons (tC (.ty "str")) tNil))))) (by rfl) scTInit.nd (pi_list (pe_fld (pv 0) rfl)) (blkOk_by (own := [("leaf", 3)]) (N := nmTInit) (sc := defScope sTInit) (by decide +kernel)) (fun _ _ _ _ _ => pg_name (i := 3) scTInit.nd rfl (Or.inl rfl))
        (fun _ _ _ _ _ => pts_one (pt_not (pt_val (pe_callB call_isi (by rfl) T.isi bIsi (pa_cons (pv 3) (pa_cons (pe_bltn (by rfl) T.str (v := .ty "str") (by decide +kernel) rfl) pa_nil)))))) (fun _ _ _ _ _ => pv 3)) pa_nil)) rfl)))))))), ?_⟩
  rcases h with ⟨t, hm, hf, hd, q⟩ | ⟨hb, q⟩
  case inr => exact ⟨_, rfl, x, rfl, .inr ⟨hb, q⟩⟩
  have l16 := leaves16 hd
  have lw := filt_words t
  have ln := filt_nums t
  have t315 := text315 hf hd
  refine ⟨_, rfl, x, rfl, .inl ⟨t, hm, hf, hd, fun H1 v s1 t1 => ?_⟩⟩
  have p1 := s1 _ _ hp
  -- self._tree
  refine ⟨_, rfl, _, rfl, p, C, dx, [], rfl, p1, TK.cl, TK.n1, (by show 0 < 1000; decide), ?_⟩
  generalize ez1 : putF "_tree" v [] = z1
  obtain ⟨x1, t2, p2⟩ := nxt z1 (SameX.refl p H |>.trans (Same.x s1)) t1 p1 (Same.refl H1)
  have c1 : z1.length ≤ 1 := by
    rw [← ez1]
    exact few (Nat.le_refl 0)
  generalize upd H1 p (.ins C dx z1) = A1 at x1 t2 p2
  -- self._text
  refine ⟨_, rfl, v, t, rfl, t2, hf.small, hd, by omega, fun H2 g2 => ?_⟩
  refine ⟨_, rfl, p, C, dx, z1, rfl, g2 _ _ p2, TK.cl, TK.n2, by omega, ?_⟩
  generalize ez2 : putF "_text" (.str t.text) z1 = z2
  obtain ⟨x2, t3, p3⟩ := nxt z2 x1 t2 p2 g2
  have c2 : z2.length ≤ 2 := by
    rw [← ez2]
    exact few c1
  generalize upd H2 p (.ins C dx z2) = A2 at x2 t3 p3
  -- self._depth
  refine ⟨_, rfl, v, t, rfl, t3, hd, fun H3 g3 => ?_⟩
  refine ⟨_, rfl, p, C, dx, z2, rfl, g3 _ _ p3, TK.cl, TK.n3, by omega, ?_⟩
  generalize ez3 : putF "_depth" (.int t.deep) z2 = z3
  obtain ⟨x3, t4, p4⟩ := nxt z3 x2 t3 p3 g3
  have c3 : z3.length ≤ 3 := by
    rw [← ez3]
    exact few c2
  generalize upd H3 p (.ins C dx z3) = A3 at x3 t4 p4
  -- self._kind
  refine ⟨_, rfl, v, t, rfl, t4, ?_⟩
  refine ⟨_, rfl, p, C, dx, z3, rfl, p4, TK.cl, TK.n4, by omega, ?_⟩
  generalize ez4 : putF "_kind" (.str t.kind) z3 = z4
  obtain ⟨x4, t5, p5⟩ := nxt z4 x3 t4 p4 (Same.refl A3)
  have c4 : z4.length ≤ 4 := by
    rw [← ez4]
    exact few c3
  generalize upd A3 p (.ins C dx z4) = A4 at x4 t5 p5
  -- self._leaves
  refine ⟨_, rfl, v, t, rfl, t5, hd, by omega, fun l H5 g5 nl hl => ?_⟩
  have lp : l ≠ p := (ne_of_none p5 nl).symm
  refine ⟨_, rfl, p, C, dx, z4, rfl, g5 _ _ p5, TK.cl, TK.n5, by omega, ?_⟩
  generalize ez5 : putF "_leaves" (.ref l) z4 = z5
  obtain ⟨x5, t6, p6⟩ := nxt z5 x4 t5 p5 g5
  have l6 := lst_upd (u := .ins C dx z5) hl lp
  have c5 : z5.length ≤ 5 := by
    rw [← ez5]
    exact few c4
  have k5 : z5.lookup ("_leaves" : Str) = some (.ref l) := by
    rw [← ez5, lookup_putF, if_pos rfl]
  generalize upd H5 p (.ins C dx z5) = A5 at x5 t6 p6 l6
  -- self._variables
  refine ⟨_, rfl, p, C, dx, _, _, rfl, p6, TK.cl, TK.n5, k5, l, rfl, ⟨_, SqL.of l6⟩, fun D hD => lc_filtL isS l6 (by omega) hD (fun _ => rfl) (fun _ => rfl) (fun i y H1 R hy sy r => ?_) (fun H6 g6 d6 => ?_)⟩
  · obtain ⟨u, ty, ky⟩ := isS_kit (K := K) (H := H1) (List.mem_of_getElem? hy)
    exact ⟨_, rfl, _, _, _, _, _, rfl, .ty "str", ty, ky, _, rfl, r⟩
  rw [leaves_words] at d6
  refine ⟨D, _, rfl, d6, by rw [List.length_map]; omega, .inl ⟨t.words, rfl, fun qv H7 ws g7 nq pw sw hq => ?_⟩⟩
  have g67 := g6.trans g7
  have qp : qv ≠ p := (ne_of_none (g6 _ _ p6) nq).symm
  refine ⟨_, rfl, p, C, dx, z5, rfl, g67 _ _ p6, TK.cl, TK.n6, by omega, ?_⟩
  generalize ez6 : putF "_variables" (.ref qv) z5 = z6
  obtain ⟨x6, t7, p7⟩ := nxt z6 x5 t6 p6 g67
  have l7 := lst_upd (u := .ins C dx z6) (g67 _ _ l6) lp
  have q7 := lst_upd (u := .ins C dx z6) hq qp
  have c6 : z6.length ≤ 6 := by
    rw [← ez6]
    exact few c5
  have k6 : z6.lookup ("_leaves" : Str) = some (.ref l) := by
    rw [← ez6, lookup_putF, if_neg (by decide +kernel)]
    exact k5
  generalize upd H7 p (.ins C dx z6) = A6 at x6 t7 p7 l7 q7
  -- self._constants
  refine ⟨_, rfl, p, C, dx, _, _, rfl, p7, TK.cl, TK.n5, k6, l, rfl, ⟨_, SqL.of l7⟩, fun D hD => lc_filtL (fun y => !isS y) l7 (by omega) hD (fun _ => rfl) (fun _ => rfl) (fun i y H1 R hy sy r => ?_) (fun H8 g8 d8 => ?_)⟩
  · obtain ⟨u, ty, ky⟩ := isS_kit (K := K) (H := H1) (List.mem_of_getElem? hy)
    exact ⟨_, rfl, _, _, _, _, _, rfl, .ty "str", ty, ky, _, rfl, r⟩
  rw [leaves_nums] at d8
  refine ⟨D, _, rfl, d8, by rw [List.length_map]; omega, .inr ⟨t.nums, rfl, fun rv H9 ns g9 nr pn sn hr9 => ?_⟩⟩
  have g89 := g8.trans g9
  have rp : rv ≠ p := (ne_of_none (g8 _ _ p7) nr).symm
  refine ⟨_, rfl, p, C, dx, z6, rfl, g89 _ _ p7, TK.cl, TK.n7, by omega, ?_⟩
  generalize ez7 : putF "_constants" (.ref rv) z6 = z7
  obtain ⟨x7, t8, p8⟩ := nxt z7 x6 t7 p7 g89
  have l8 := lst_upd (u := .ins C dx z7) (g89 _ _ l7) lp
  have q8 := lst_upd (u := .ins C dx z7) (g89 _ _ q7) qp
  have r8 := lst_upd (u := .ins C dx z7) hr9 rp
  have ez : z7 = tfs v t.text t.deep t.kind l qv rv := by
    rw [← ez7, ← ez6, ← ez5, ← ez4, ← ez3, ← ez2, ← ez1]
    rfl
  generalize upd H9 p (.ins C dx z7) = A7 at x7 t8 p8 l8 q8 r8
  rw [ez] at p8
  refine q A7 x7 fun Ds hDs G sG => ?_
  have out : ∀ {b : Addr} {o : HO}, A7 b = some o → (∀ xs, o ≠ .lst xs) → b ∉ Ds := fun {b o} hb no m => by
    obtain ⟨xs, e⟩ := hDs b m
    have nb : b ≠ p := ne_of e hp (by intro z; cases z)
    have := x7 b _ e nb
    rw [hb] at this
    exact no xs (Option.some.inj this)
  have lD : l ∉ Ds := fun m => by
    obtain ⟨xs, e⟩ := hDs l m
    have := x4 l _ e (ne_of e hp (by intro z; cases z))
    rw [nl] at this
    cases this
  have qD : qv ∉ Ds := fun m => by
    obtain ⟨xs, e⟩ := hDs qv m
    have := g6 _ _ (x5 qv _ e (ne_of e hp (by intro z; cases z)))
    rw [nq] at this
    cases this
  have rD : rv ∉ Ds := fun m => by
    obtain ⟨xs, e⟩ := hDs rv m
    have := g8 _ _ (x6 rv _ e (ne_of e hp (by intro z; cases z)))
    rw [nr] at this
    cases this
  have hDs7 : Lists Ds A7 := fun D m => by
    obtain ⟨xs, e⟩ := hDs D m
    exact ⟨xs, x7 D _ e (ne_of e hp (by intro z; cases z))⟩
  exact ⟨hf, hd, dx, v, l, qv, rv, ws, ns, sG _ _ p8 (out p8 (by intro xs z; cases z)), t8.off sG hDs7, sG _ _ l8 lD, sG _ _ q8 qD, sG _ _ r8 rD, pw, sw, pn, sn⟩
end
end TS
namespace TS
open PySem L2
theorem placesD_mem {nm : Str} {x : Str × Nat} : ∀ {l : List DeedD} {j : Nat}, x ∈ placesD nm j l → x.1 = nm ∧ j ≤ x.2 ∧ x.2 < j + l.length
  | [], _, h => by cases h
  | d :: r, j, h => by
    have h : x ∈ (if d.l = true then placesD nm (j + 1) r else (nm, j) :: placesD nm (j + 1) r) := h
    split at h
    · obtain ⟨h1, h2, h3⟩ := placesD_mem h
      exact ⟨h1, by omega, by simp only [List.length_cons]; omega⟩
    · rcases List.mem_cons.mp h with rfl | h
      · exact ⟨rfl, Nat.le_refl _, by simp only [List.length_cons]; omega⟩
      · obtain ⟨h1, h2, h3⟩ := placesD_mem h
        exact ⟨h1, by omega, by simp only [List.length_cons]; omega⟩
theorem placesE_mem {ps : List ProcD} {x : Str × Nat} (h : x ∈ placesE ps) : ∃ p ∈ ps, x.1 = p.name ∧ x.2 < p.ds.length := by
  unfold placesE at h
  obtain ⟨z, hz, hx⟩ := List.mem_flatten.mp h
  obtain ⟨p, hp, rfl⟩ := List.mem_map.mp hz
  have := placesD_mem hx
  exact ⟨p, hp, this.1, by omega⟩
theorem name_one {ps : List ProcD} (nd : (ps.map (·.name)).Nodup) {p q : ProcD} (hp : p ∈ ps) (hq : q ∈ ps) (e : p.name = q.name) : p = q := by
  obtain ⟨i, hi, rfl⟩ := List.getElem_of_mem hp
  obtain ⟨j, hj, rfl⟩ := List.getElem_of_mem hq
  have h1 : (ps.map (·.name))[i]? = some ps[i].name := by rw [List.getElem?_map, List.getElem?_eq_getElem hi]; rfl
  have h2 : (ps.map (·.name))[j]? = some ps[i].name := by rw [List.getElem?_map, List.getElem?_eq_getElem hj, e]; rfl
  have := nodup_same nd h1 h2
  subst this
  rfl
/-- a Program that stays one whatever some lists hold -/
def GOff (PR PC CD C : Addr) (Ds : List Addr) (H : Hp) (a : Addr) (ps : List ProcD) (ins : List Str) : Prop := ∀ G, SameOff Ds H G → ProgAt PR PC CD C G a ps ins
theorem GOff.off {PR PC CD C a : Addr} {Ds : List Addr} {H H' : Hp} {ps : List ProcD} {ins : List Str} (h : GOff PR PC CD C Ds H a ps ins) (s : SameOff Ds H H') : GOff PR PC CD C Ds H' a ps ins := fun G sG => h G (s.trans sG)
theorem GOff.now {PR PC CD C a : Addr} {Ds : List Addr} {H : Hp} {ps : List ProcD} {ins : List Str} (h : GOff PR PC CD C Ds H a ps ins) : ProgAt PR PC CD C H a ps ins := h H (SameOff.refl _ _)
theorem gfs_ends {lp ln lb li lv lc lq lp' ln' lb' li' lv' lc' lq' : Addr} (h : gfs lp ln lb li lv lc lq = gfs lp' ln' lb' li' lv' lc' lq') : lp = lp' := by
  have w1 := gfs_processes lp ln lb li lv lc lq
  rw [h, gfs_processes] at w1
  injection w1 with w1
  injection w1 with w1
  exact w1.symm
theorem GOff.parts {PR PC CD C a : Addr} {Ds : List Addr} {H : Hp} {ps : List ProcD} {ins : List Str} (h : GOff PR PC CD C Ds H a ps ins) (hDs : Lists Ds H) : ∃ (dx lp ln lb li lv lc lq : Addr) (as : List Addr) (ys : List V), H a = some (.ins PR dx (gfs lp ln lb li lv lc lq)) ∧ H lp = some (.lst (as.map V.ref)) ∧ as.length = ps.length ∧
    H li = some (.lst (ins.map V.str)) ∧ H lq = some (.lst ys) ∧ Each PlV H ys (placesE ps) ∧ ∀ (i : Nat) b d, as[i]? = some b → ps[i]? = some d → POff PC CD C Ds H b d := by
  obtain ⟨as, ⟨dx, lp, ln, lb, li, lv, lc, lq, vs, cs, ys, h1, h2, h3, h4, h5, h6, h7, h8, h9, h10, h11⟩, la, hA⟩ := h.now
  have na : a ∉ Ds := no_list hDs h1 (fun _ z => by cases z)
  have nd : lp ∉ Ds := fun m => by
    have al : a ≠ lp := ne_of h1 h2 (by intro z; cases z)
    obtain ⟨as', ⟨dx', lp', ln', lb', li', lv', lc', lq', vs', cs', ys', g1, g2, _⟩, _⟩ := h (upd H lp (.tup [])) fun b o e n => by
      have bn : b ≠ lp := fun z => n (by rw [z]; exact m)
      rw [upd_ne bn]
      exact e
    rw [upd_ne al, h1] at g1
    have e2 : gfs lp ln lb li lv lc lq = gfs lp' ln' lb' li' lv' lc' lq' := by
      injection g1 with g1
      injection g1
    have := gfs_ends e2
    subst this
    rw [upd_same] at g2
    cases g2
  refine ⟨dx, lp, ln, lb, li, lv, lc, lq, as, ys, h1, h2, la, h5, h10, h11, fun i b d hb hd G sG => ?_⟩
  obtain ⟨as', ⟨dx', lp', ln', lb', li', lv', lc', lq', vs', cs', ys', g1, g2, _⟩, _, gA⟩ := h G sG
  rw [sG _ _ h1 na] at g1
  have e2 : gfs lp ln lb li lv lc lq = gfs lp' ln' lb' li' lv' lc' lq' := by
    injection g1 with g1
    injection g1
  have := gfs_ends e2
  subst this
  rw [sG _ _ h2 nd] at g2
  have ea : as = as' := by
    injection g2 with g2
    injection g2 with g2
    exact List.map_inj_right (f := V.ref) (fun _ _ e => V.ref.inj e) |>.mp g2
  subst ea
  exact gA i b d hb hd
end TS
namespace TS
open PySem L2
section
variable {P : Program} {w : World} {K : PySem.W.Frag} {mg : Str → Option Value} {base : Heap}
def spGDelay (K : PySem.W.Frag) (PR PC CD C NP : Addr) : Sp := fun vs H Q E => ∃ (a : Addr) (v : V) (ps : List ProcD) (ins : List Str) (Ds : List Addr), vs = [.ref a, v] ∧ Lists Ds H ∧ GOff PR PC CD C Ds H a ps ins ∧ ProgOk ps ins ∧
  ((∃ (q : Addr) (xs : List V) (st : Nat → Bool), v = .ref q ∧ RowAt H q xs ∧ (∀ (i : Nat) x, xs[i]? = some x → PlCase K H (placesE ps) x (st i)) ∧
      ((∀ i, i < xs.length → st i = true) → ∃ pls : List (Str × Nat), Each PlV H xs pls ∧ pls.length ≤ 900 ∧ (∀ x ∈ pls, x ∈ placesE ps) ∧ ∀ H' b, Same H H' → GOff PR PC CD C Ds H' b (ps.map (lateIn pls)) ins → Q (.ref b) H') ∧
      (∀ (k : Nat) x, xs[k]? = some x → st k = false → (∀ j, j < k → st j = true) → ∀ H' dd, Same H H' → H' dd = none → E (.ref NP) (some dd) (upd H' dd (.xd [("value", x)])))) ∨
   (∃ ty, TyX K H v ty ∧ PySem.W.kitAny K ty [.type "list", .type "tuple"] = some false ∧ ∀ H' dd, Same H H' → H' dd = none → E (.ref NP) (some dd) (upd H' dd (.xd [("value", .non)]))))
abbrev nmGDelay : List Str := ["self", "places", "place", "process"]
theorem scGDelay : FnScope nmGDelay ["self", "places"] (defScope sGDelay) := ⟨rfl, rfl, rfl, by decide +kernel, rfl, by decide +kernel, by decide +kernel⟩
theorem ok_gdelay {PR PC CD C NP f : Addr} {fd : FuncData} (F : Fun K "delayed" "Program.delayed" sGDelay f fd) (T : BltT mg) (GK : ProgK K mg PR) (EN : ErrC P w K mg base "NoPlace" "value" NP) (DR : Has P w K mg base "is_row" 1 ["value"] (spIsRow K)) (DI : Has P w K mg base "_is_place" 2 ["value", "places"] (spIsPlace K))
    (DW : Has P w K mg base "_with_delays" 22 ["process", "places"] (spWithD PC CD C)) (DG : HasProg P w K mg base PR PC CD C) : FnOk P w K mg base (L2.CX P w) 23 f fd ["self", "places"] (spGDelay K PR PC CD C NP) := by
  obtain ⟨f1, fd1, m1, k1, b1, G1⟩ := DR
  obtain ⟨f2, fd2, m2, k2, b2, G2⟩ := DI
  obtain ⟨f3, fd3, m3, k3, b3, G3⟩ := DW
  obtain ⟨f4, fd4, M4, b4, G4⟩ := DG
  refine F.okX scGDelay (fun vs H Q E h => ?_) (fun cdv A outer s H vs Q E hr h => ?_)
  · obtain ⟨a, v, ps, ins, Ds, rfl, _⟩ := h
    rfl
  obtain ⟨a, v, ps, ins, Ds, rfl, hDs, hg, ok, h⟩ := h
  have r1 : Room 1 _ := hr.mono (by decide)
  have r2 : Room 2 _ := hr.mono (by decide)
  have r7 : Room 7 _ := hr.mono (by decide)
  refine ⟨_, pss_cons (ps_if (pt_not (pt_val (pe_call G1 r1 rfl m1 k1 b1 .nil pass0 (pa_cons (pv 1) pa_nil)))) (pss_one (ps_raiseErr (W := fun cls d _ H => E cls d H) EN rfl r2 (takes_of rfl rfl rfl rfl) rfl pe_non)) pss_nil)
    (pss_cons (ps_for (passes_of rfl) rfl (pi_row (pv 1)) (pg_name (i := 2) scGDelay.nd rfl (.inl rfl))
      (pss_one (ps_if (pt_not (pt_val (pe_call G2 r2 rfl m2 k2 b2 .nil pass0 (pa_cons (pv 2) (pa_cons (pe_fld (pv 0) rfl) pa_nil))))) (pss_one (ps_raiseErr (W := fun cls d _ H => E cls d H) EN rfl r2 (takes_of rfl rfl rfl rfl) rfl (pv 2))) pss_nil)))
    (pss_one (ps_ret (pe_make M4 G4 r7 rfl GK.mgC b4 .nil pass0 (pa_cons (pe_lc (own := [("process", 3)]) (g := gName 3) (tt := tYes) (te := tCall (spWithD PC CD C) [] E0 (tCons (tVar 3) (tCons (tVar 1) tNil))) (by rfl) scGDelay.nd (pi_list (pe_fld (pv 0) rfl)) (blkOk_by (own := [("process", 3)]) (N := nmGDelay) (sc := defScope sGDelay) (by decide +kernel)) (fun _ _ _ _ _ => pg_name (i := 3) scGDelay.nd rfl (Or.inl rfl)) (fun _ _ _ _ _ => pts_nil)
      (fun _ _ _ _ _ => pe_call G3 hr rfl m3 k3 b3 .nil pass0 (pa_cons (pv 3) (pa_cons (pv 1) pa_nil)))) (pa_cons (pe_fld (pv 0) rfl) pa_nil)))))), ?_⟩
  obtain ⟨dx, lp, ln, lb, li, lv, lc, lq, as, ys, h1, h2, la, h5, h10, h11, hA⟩ := hg.parts hDs
  have pl : ∀ x ∈ placesE ps, Plain x.1 := fun x hx => by
    obtain ⟨p, hp, e, _⟩ := placesE_mem hx
    obtain ⟨i, hi, rfl⟩ := List.getElem_of_mem hp
    have := (hA i _ _ (List.getElem?_eq_getElem (by omega)) (List.getElem?_eq_getElem hi)).now.ok.name
    rw [e]
    exact plain_word this
  rcases h with ⟨q, xs, st, rfl, hx, hst, good, bad⟩ | ⟨ty, hty, hk, bad⟩
  case inr =>
    refine ⟨_, rfl, v, ty, false, rfl, hty, hk, fun H1 s1 => ⟨_, rfl, iteT ?_⟩⟩
    exact fun dd hd => bad H1 dd s1 hd
  obtain ⟨ty, hty, hk⟩ := hx.ty (K := K)
  refine ⟨_, rfl, .ref q, ty, true, rfl, hty, hk, fun H1 s1 => ⟨_, rfl, iteF ?_⟩⟩
  refine ⟨_, rfl, q, xs, rfl, hx.same s1, fun J w0 => for_it w0 (fun i σ G => Same H1 G ∧ (∃ e2 : Option V, σ = [some (.ref a), some (.ref q), e2, none]) ∧ ∀ j, j < i → st j = true) ⟨Same.refl _, ⟨none, rfl⟩, fun j hj => absurd hj (by omega)⟩ (fun i σ G _ z => ?_) (fun i x σ G G' hi z hy => ?_) (fun σ G z => ?_)⟩
  · rcases hx.same s1 with h | h
    · exact (z.1 _ _ h).trans h.symm
    · exact (z.1 _ _ h).trans h.symm
  · obtain ⟨sG, ⟨e2, rfl⟩, pre⟩ := z
    obtain ⟨rfl, hxi⟩ := hy
    have s2 := s1.trans sG
    refine ⟨_, rfl, _, rfl, a, PR, dx, _, _, rfl, s2 _ _ h1, GK.cl, GK.n7, gfs_places _ _ _ _ _ _ _, x, lq, ys, placesE ps, st i, rfl, s2 _ _ h10, h11.imp fun v x h => h.same s2, pl, (hst i x hxi).same s2, fun H3 s3 => ⟨_, rfl, ?_⟩⟩
    cases e : st i with
    | true =>
      refine iteF ⟨sG.trans s3, ⟨_, rfl⟩, fun j hj => ?_⟩
      rcases Nat.lt_or_ge j i with c | c
      · exact pre j c
      · have : j = i := by omega
        rw [this]
        exact e
    | false => exact iteT ⟨_, rfl, fun dd hd => bad i x hxi e pre H3 dd (s2.trans s3) hd⟩
  obtain ⟨sG, ⟨e2, rfl⟩, pre⟩ := z
  obtain ⟨pls, hE, l9, hin, k⟩ := good pre
  have s2 := s1.trans sG
  have p5 := ok.p5
  have lx : (as.map V.ref).length = ps.length := by rw [List.length_map, la]
  refine ⟨_, rfl, a, PR, dx, _, _, rfl, s2 _ _ h1, GK.cl, GK.n1, gfs_processes _ _ _ _ _ _ _, lp, rfl, ⟨_, SqL.of (s2 _ _ h2)⟩, fun D hD => lc_eachL (K := K) (fun G v (p : ProcD) => ∃ b, v = .ref b ∧ POff PC CD C (D :: Ds) G b (lateIn pls p)) (ts := ps) (s2 _ _ h2) lx.symm (by omega) hD (fun _ => rfl) (fun i v p H3 R hv hp s3 hL hG => ?_) (fun H3 zs s3 d3 e3 => ?_)⟩
  · obtain ⟨b, hb, rfl⟩ := map_at hv
    have g3 := s2.trans s3
    refine ⟨_, rfl, _, rfl, b, q, p, xs, pls, D :: Ds, rfl, lists_cons hL (lists_same hDs g3), ((hA i b p hb hp).off (Same.off s2)).grow hD (Same.off s3), hx.same g3, hE.imp fun v x h => h.same g3, l9, fun x hx' e => ?_, fun H4 c s4 hP => hG _ H4 s4 fun H5 s5 => ⟨c, rfl, hP.off (s5.sub fun y hy => by rw [List.mem_singleton.mp hy]; simp)⟩⟩
    obtain ⟨p', hp', e1, e2⟩ := placesE_mem (hin x hx')
    have := name_one ok.nd hp' (List.mem_of_getElem? hp) (e1.symm.trans e)
    rw [← this]
    exact e2
  · obtain ⟨cs, ecs, _⟩ := refs_of (φ := fun _ => True) zs fun y hy => by
      obtain ⟨j, hj, e⟩ := List.getElem_of_mem hy
      have ht : ps[j]? = some (ps[j]'(by rw [← e3.1]; exact hj)) := List.getElem?_eq_getElem _
      obtain ⟨c, ec, _⟩ := e3.2 j y _ (by rw [← e]; exact List.getElem?_eq_getElem hj) ht
      exact ⟨c, ec, trivial⟩
    subst ecs
    have lc2 : cs.length = ps.length := by
      have := e3.1
      rwa [List.length_map] at this
    have hC : ∀ (i : Nat) b d, cs[i]? = some b → (ps.map (lateIn pls))[i]? = some d → POff PC CD C Ds H3 b d := fun i b d hb hd => by
      obtain ⟨p, hp, rfl⟩ := map_at hd
      obtain ⟨b', e, h⟩ := e3.2 i (.ref b) p (by rw [List.getElem?_map, hb]; rfl) hp
      cases e
      exact h.less
    have g3 := s2.trans s3
    refine ⟨_, rfl, a, PR, dx, _, _, rfl, g3 _ _ h1, GK.cl, GK.n4, gfs_inputs _ _ _ _ _ _ _, ?_⟩
    intro b dxb nb ndb ne
    exact prog_at (late_ok ok) d3 (by rw [List.length_map]; exact lc2) (fun i c d x y => (hC i c d x y).now) (g3 _ _ h5) nb ndb ne fun H4 s4 hT => ⟨rfl, k H4 b (g3.trans s4) fun G sG' => ⟨cs, hT Ds (lists_same hDs g3) G sG', by rw [List.length_map]; exact lc2, fun i c d x y => (hC i c d x y).off (Same.off s4) G sG'⟩⟩
end
end TS
namespace TS
open PySem L2
abbrev sLPlaces : Stmt := top 116
theorem Each.app2 {α : Type} {R : Hp → V → α → Prop} {H : Hp} {vs us : List V} {ts ss : List α} (h : Each R H vs ts) (g : Each R H us ss) : Each R H (vs ++ us) (ts ++ ss) := by
  refine ⟨by simp [h.1, g.1], fun i a b ha hb => ?_⟩
  by_cases hi : i < vs.length
  · rw [List.getElem?_append_left hi] at ha
    rw [List.getElem?_append_left (by have := h.1; omega)] at hb
    exact h.2 i a b ha hb
  · rw [List.getElem?_append_right (by omega)] at ha
    rw [List.getElem?_append_right (by have := h.1; omega), ← h.1] at hb
    exact g.2 _ a b ha hb
section
variable {P : Program} {w : World} {K : PySem.W.Frag} {mg : Str → Option Value} {base : Heap}
/-! _law_places -/
abbrev nmLPlaces : List Str := ["plain", "found", "name", "waits", "deeds", "spot", "deed"]
theorem scLPlaces : FnScope nmLPlaces ["plain"] (defScope sLPlaces) := ⟨rfl, rfl, rfl, by decide +kernel, rfl, by decide +kernel, by decide +kernel⟩
def spLPlaces : Sp := fun vs H Q _ => ∃ (v : V) (es : List ProcD) (ins : List Str) (Ds : List Addr), vs = [v] ∧ PlainV Ds H v es ins ∧ es.length ≤ 5 ∧ (∀ e ∈ es, e.ds.length ≤ 4) ∧ ∀ H' r ys, Same H H' → H r = none → H' r = some (.lst ys) → Each PlV H' ys (placesE es) → Q (.ref r) H'
theorem ok_lplaces {f : Addr} {fd : FuncData} (F : Fun K "_law_places" "_law_places" sLPlaces f fd) (U : BltU mg) : FnOk P w K mg base CX0 1 f fd ["plain"] spLPlaces := by
  refine F.ok scLPlaces (fun vs H Q E h => ?_) (fun cdv A outer s H vs Q E hr h => ?_)
  · obtain ⟨v, es, ins, Ds, rfl, _⟩ := h
    rfl
  obtain ⟨v, es, ins, Ds, rfl, hv, l5, l4, q⟩ := h
  have hu := hu_of hr
  refine ⟨_, pss_cons (ps_set (i := 1) scLPlaces.nd rfl (.inl rfl) (pe_lst pa_nil))
    (pss_cons (ps_for PassesOwn.never rfl (pi_list (pe_dget hu (pv 0) pe_str (fun _ _ => rfl))) (pg_tup (by rfl) (pgs_cons (pg_name (i := 2) scLPlaces.nd rfl (.inr rfl)) (pgs_cons (pg_name (i := 3) scLPlaces.nd rfl (.inl rfl)) (pgs_cons (pg_name (i := 4) scLPlaces.nd rfl (.inl rfl)) pgs_nil))))
      (pss_one (ps_set (i := 1) scLPlaces.nd rfl (.inl rfl) (pe_op op_cat (pv 1) (pe_lc (own := [("spot", 5), ("deed", 6)]) (g := gTup K 2 (gCons (gName 5) (gCons (gName 6) gNil))) (tt := tNot (tB (tOp (rIxT K) (tVar 6) (tC (.int 1))))) (te := tTup (tCons (tVar 2) (tCons (tVar 5) tNil))) (by rfl) scLPlaces.nd (pi_enum rfl U.enum (pa_cons (pv 4) pa_nil)) (blkOk_by (own := [("spot", 5), ("deed", 6)]) (N := nmLPlaces) (sc := defScope sLPlaces) (by decide +kernel))
        (fun _ _ _ _ _ => pg_tup (by rfl) (pgs_cons (pg_name (i := 5) scLPlaces.nd rfl (Or.inl rfl)) (pgs_cons (pg_name (i := 6) scLPlaces.nd rfl (Or.inl rfl)) pgs_nil)))
        (fun _ _ _ _ _ => pts_one (pt_not (pt_val (pe_ix ix_tup (pv 6) pe_int (fun _ _ => rfl)))))
        (fun _ _ _ _ _ => pe_tup (pa_cons (pv 2) (pa_cons (pv 5) pa_nil))))))))
    (pss_one (ps_ret (pv 1)))), ?_⟩
  refine ⟨by show 0 ≤ sizeLine; decide, fun r0 hr0 => ?_⟩
  have g1 : Same H (upd H r0 (.lst [])) := same_upd hr0 _
  have v1 : (upd H r0 (.lst [])) r0 = some (.lst []) := upd_same
  generalize upd H r0 (.lst []) = H1 at g1 v1
  obtain ⟨q0, lp, li, ys, rfl, hq, hlp, hE, hli, _, _⟩ := hv
  have lE := hE.1
  refine ⟨_, rfl, q0, _, rfl, DGet.k (k := .inr "processes") (g1 _ _ hq), lp, rfl, ⟨_, SqL.of (g1 _ _ hlp)⟩, ?_⟩
  refine for_list (K := K) (xs := ys) (fun i σ G => Same H G ∧ ∃ (rf : Addr) (zs : List V) (e2 e3 e4 : Option V), σ = [some (.ref q0), some (.ref rf), e2, e3, e4, none, none] ∧ H rf = none ∧ G rf = some (.lst zs) ∧ Each PlV G zs (placesE (es.take i))) ⟨g1, r0, [], none, none, none, rfl, hr0, v1, Each.nil⟩ (fun i σ G hi z => SqL.of (z.1 _ _ hlp)) (fun i x σ G hx z => ?_) (fun σ G z => ?_)
  · obtain ⟨sG, rf, zs, e2, e3, e4, rfl, nf, hf, eZ⟩ := z
    have hi : i < es.length := by
      have := (List.getElem?_eq_some_iff.mp hx).1
      omega
    have hei : es[i]? = some es[i] := List.getElem?_eq_getElem hi
    obtain ⟨t, lw, ld, ds, rfl, ht, hlw, hld, hD, _, _⟩ := (hE.2 i x _ hx hei).same sG
    have h4 := l4 _ (List.getElem_mem hi)
    have lz : (placesE (es.take i)).length ≤ 20 := by
      have := placesE_len (es.take i) fun p hp => l4 p (List.mem_of_mem_take hp)
      have l2 : (es.take i).length ≤ 5 := by rw [List.length_take]; omega
      omega
    generalize es[i] = e at hei ht hlw hD h4
    have lD := hD.1
    refine ⟨t, _, rfl, SqT.of ht, rfl, _, _, rfl, _, _, rfl, _, _, rfl, rfl, ?_⟩
    refine ⟨_, rfl, _, rfl, ld, _, rfl, SqL.of hld, fun D hDn => lc_it (walk_enum (K := K) (a := ld) (xs := ds)) (fun j G2 => Same G G2 ∧ ∃ us, G2 D = some (.lst us) ∧ Each PlV G2 us (placesD e.name 0 (e.ds.take j))) ⟨same_upd hDn _, [], upd_same, Each.nil⟩ (fun j G2 _ z => SqL.of (z.1 _ _ hld)) (fun j x G2 G3 hj z hy => ?_) (fun G2 z => ?_)⟩
    · obtain ⟨s2, us, hus, eU⟩ := z
      obtain ⟨Tp, xi, y, rfl, nT, rfl, exi, hyy⟩ := hy
      cases exi
      have hdj : e.ds[j]? = some (e.ds[j]'(by omega)) := List.getElem?_eq_getElem _
      have hdv := (hD.2 j y _ hyy hdj).same s2
      generalize e.ds[j]'(by omega) = d at hdj hdv
      have ltk : (e.ds.take j).length = j := by rw [List.length_take]; omega
      have g3 : Same G2 (upd G2 Tp (.tup [.int (j : Nat), y])) := same_upd nT _
      have t3 : (upd G2 Tp (.tup [.int (j : Nat), y])) Tp = some (.tup [.int (j : Nat), y]) := upd_same
      have eU3 := eU.imp (R' := PlV) (H' := upd G2 Tp (.tup [.int (j : Nat), y])) fun v x h => h.same g3
      have u3 := g3 _ _ hus
      have s3 := s2.trans g3
      have hdv3 := hdv.same g3
      have lu : us.length ≤ 4 := by
        rw [eU.1]
        refine Nat.le_trans (placesD_len _ _ _) ?_
        rw [List.length_take]
        omega
      generalize upd G2 Tp (.tup [.int (j : Nat), y]) = G3 at g3 t3 eU3 u3 s3 hdv3
      obtain ⟨qd, tv, rfl, hqd, htv⟩ := hdv3
      refine ⟨Tp, _, rfl, SqT.of t3, rfl, _, _, rfl, _, _, rfl, rfl, rfl, ?_⟩
      refine ⟨_, rfl, qd, _, _, _, rfl, rfl, SqT.of hqd, atI_nat (j := 1) rfl, d.l, rfl, ?_⟩
      have dtk : e.ds.take (j + 1) = e.ds.take j ++ [d] := take_snoc hdj
      cases hl : d.l with
      | true =>
        refine iteF ⟨s3, us, u3, ?_⟩
        rw [dtk, placesD_snoc, hl, if_pos rfl, List.append_nil]
        exact eU3
      | false =>
        refine iteT ⟨_, rfl, _, rfl, by show 2 ≤ sizeLine; decide, fun t4 ht4 => ?_⟩
        have g4 : Same G3 (upd G3 t4 (.tup [.str e.name, .int (j : Nat)])) := same_upd ht4 _
        have v4 : (upd G3 t4 (.tup [.str e.name, .int (j : Nat)])) t4 = some (.tup [.str e.name, .int (j : Nat)]) := upd_same
        have u4 := g4 _ _ u3
        have s4 := s3.trans g4
        have eU4 := eU3.imp (R' := PlV) (H' := upd G3 t4 (.tup [.str e.name, .int (j : Nat)])) fun v x h => h.same g4
        generalize upd G3 t4 (.tup [.str e.name, .int (j : Nat)]) = G4 at g4 v4 u4 s4 eU4
        have LD : Lists [D] G4 := fun c hc => by
          rw [List.mem_singleton.mp hc]
          exact ⟨_, u4⟩
        have o5 : SameOff [D] G4 (upd G4 D (.lst (us ++ [.ref t4]))) := off_upd (SameOff.refl _ _) (by simp)
        refine ⟨us, u4, small1000 (by omega), fun b o e' => ?_, us ++ [.ref t4], upd_same, ?_⟩
        · rw [upd_ne (ne_of_none e' hDn)]
          exact s4 b o e'
        · rw [dtk, placesD_snoc, hl, if_neg Bool.false_ne_true, ltk]
          exact Each.snoc (eU4.imp fun v x h => h.off o5 LD) ((show PlV G4 (.ref t4) (e.name, 0 + j) from ⟨t4, rfl, by rw [Nat.zero_add]; exact v4⟩).off o5 LD)
    · obtain ⟨s2, us, hus, eU⟩ := z
      rw [List.take_of_length_le (by omega)] at eU
      have hf2 := s2 _ _ hf
      have lu : us.length ≤ 4 := by
        rw [eU.1]
        exact Nat.le_trans (placesD_len _ _ _) h4
      have lzs : zs.length ≤ 20 := by rw [eZ.1]; exact lz
      refine ⟨rf, D, zs, us, rfl, rfl, hf2, hus, Nat.le_of_lt (small1000 (by omega)), fun p hp => ?_⟩
      have g5 : Same G2 (upd G2 p (.lst (zs ++ us))) := same_upd hp _
      refine ⟨(sG.trans s2).trans g5, p, zs ++ us, _, _, _, rfl, (sG.trans s2).free hp, upd_same, ?_⟩
      rw [take_snoc hei, placesE_snoc]
      exact Each.app2 (eZ.imp fun v x h => h.same (s2.trans g5)) (eU.imp fun v x h => h.same g5)
  · obtain ⟨sG, rf, zs, e2, e3, e4, rfl, nf, hf, eZ⟩ := z
    rw [List.take_of_length_le (by omega)] at eZ
    exact ⟨_, rfl, q G rf zs sG nf hf eZ⟩
/-! _law_delayed -/
abbrev nmLDelayed : List Str := ["plain", "places", "processes", "name", "waits", "deeds", "made", "spot", "deed"]
def spLDelayed : Sp := fun vs H Q _ => ∃ (v : V) (q : Addr) (ys : List V) (pls : List (Str × Nat)) (es : List ProcD) (ins : List Str) (Ds : List Addr), vs = [v, .ref q] ∧ Lists Ds H ∧ PlainV Ds H v es ins ∧ H q = some (.lst ys) ∧ Each PlV H ys pls ∧ (∀ x ∈ pls, Plain x.1) ∧ (∀ e ∈ es, Plain e.name) ∧ es.length ≤ 900 ∧ (∀ e ∈ es, e.ds.length ≤ 900) ∧
  ∀ H' r, Same H H' → H r = none → PlainV Ds H' (.ref r) (es.map (lateIn pls)) ins → Q (.ref r) H'
end
end TS
namespace TS
open PySem PySem.Spec PyProof.Rows PySem.W PySem.Calls L2
section
variable {X : Cx} {e : Expr} {te : TE} {p pos kpos : Pos} {x arg fld : Str} {C fI : Addr} {k : Nat} {fd : FuncData} {B newId initId : String} {bmB : List Value}
/-- the call of the class, by keyword -/
theorem run_errK {nm qn : Str} {N : Addr} {bs bm sub : List Value} {sn : List Str} {ab : Bool} {col : Option Bool} {dd : Option Addr} {k0 k1 k2 k3 k5 : Option Value} {pins : List (Addr × Obj)} {σ : L2.St} {H1 : Hp} {Q : VK} {s1 : Shared} {v : V} {u : Value}
    (T : ErrK X.K C B newId initId bmB) (hC : X.K.lookup C = some (excClassObj nm qn C N bs bm true sn sub ab col dd k0 k1 k2 k3 k5 newId)) (hbm : excTail bmB bm = true)
    (iC : findIn X.K (.ref C) "__init__" = some (some (.ref fI))) (tI : typeIn X.K (.ref fI) = some (.type "function"))
    (F1 : FnOk X.prog X.w X.K X.mg X.base CX0 k fI fd ["self", arg] (spIni C fld)) (hr : Room (k + 1) X.A) (I1 : Inv X pins σ H1 s1) (rv : RelV v u)
    (hb : ∀ (s2 : Shared) (o : Addr), BindsTo s2 fd ⟨[Value.ref o], [(arg, u)]⟩ ((["self", arg] : List Str).zip [Value.ref o, u]))
    (q : ∀ a, H1 a = none → ∀ dx, H1 dx = none → dx ≠ a → Q (.ref a) (errH H1 a dx C fld v)) :
    wpAny (model X.prog X.w) X.A (call (.ref C) [] [(arg, u)]) (EP X pins σ Q) X.xe s1 := by
  obtain ⟨Bn, iN, bmN, NF, hB⟩ := T.NF
  have hT : bm.contains (.type Bn) = true ∧ bm.contains (.type "AttributeError") = false ∧ bm.contains (.type "NameError") = false :=
    ⟨(excTail_contains _ bm hbm).trans hB, (excTail_contains _ bm hbm).trans T.noA, (excTail_contains _ bm hbm).trans T.noN⟩
  obtain ⟨hp, g, dr, tk, os⟩ := s1
  have hsz : hp.objs.size ≤ hp.objs.size + 1 := Nat.le_succ _
  have hn : H1 (hp.objs.size + 1) = none := I1.hok.fresh hsz
  have kk : ∀ b o, hp.get? b = some o → ((hp.push (kdv_tup [])).push (PySem.HandSPX.excO C hp.objs.size)).get? b = some o :=
    fun b o z => Heap.get?_push_of_some _ (Heap.get?_push_of_some _ z)
  have hget : ((hp.push (kdv_tup [])).push (PySem.HandSPX.excO C hp.objs.size)).get? (hp.objs.size + 1) = some (PySem.HandSPX.excO C hp.objs.size) := by heap_get
  have I2 : Inv X pins σ (upd H1 (hp.objs.size + 1) (exo (hp.objs.size + 1) C none)) ⟨(hp.push (kdv_tup [])).push (PySem.HandSPX.excO C hp.objs.size), g, dr, tk, os⟩ :=
    I1.laid (t' := tk) (a := hp.objs.size + 1) (o := exo (hp.objs.size + 1) C none) (h' := (hp.push (kdv_tup [])).push (PySem.HandSPX.excO C hp.objs.size)) kk hsz (exo_ok hget)
  refine wpAny_call (callK NF hT (I1.kIn _ _ hC) (looks_findIn I1.kIn iC) (fun self => bind_fn I1.kIn self tI) (by show 0 ≤ sizeLine; decide)
    (codeAny_mono (F1.run _ X.stack _ _ ⟨[Value.ref (hp.objs.size + 1)], [(arg, u)]⟩ [Value.ref (hp.objs.size + 1), u] [.ref (hp.objs.size + 1), v] (fun y H2 => y = .non ∧ Q (.ref (hp.objs.size + 1)) H2) (fun _ _ _ => False)
      (hr.make C [] [(arg, u)]) (I2.env0.make C [] [(arg, u)]) (hb _ _) (.cons rfl (.cons rv .nil)) ⟨_, v, rfl, upd_same, fun dx hd ne => ⟨rfl, ?_⟩⟩) fun r s' hq' => ?_))
  · rw [errH_of ne]
    exact q _ hn dx (by rw [upd_ne ne] at hd; exact hd) ne
  · cases r with
    | error er => exact hq'.elim
    | ok fl =>
      cases fl with
      | ret u' =>
        obtain ⟨y, H2, J, ry, ey, q2⟩ := I2.after hq'
        subst ey
        exact ⟨ry, .ref _, H2, J, rfl, q2⟩
      | next => exact False.elim hq'
      | brk => exact False.elim hq'
      | cont => exact False.elim hq'
theorem pe_errK (T : ErrK X.K C B newId initId bmB) (iC : findIn X.K (.ref C) "__init__" = some (some (.ref fI))) (tI : typeIn X.K (.ref fI) = some (.type "function"))
    (F1 : FnOk X.prog X.w X.K X.mg X.base CX0 k fI fd ["self", arg] (spIni C fld)) (hr : Room (k + 1) X.A)
    (hb : ∀ (s2 : Shared) (o : Addr) (u : Value), BindsTo s2 fd ⟨[Value.ref o], [(arg, u)]⟩ ((["self", arg] : List Str).zip [Value.ref o, u]))
    (hg : Gl X x) (hm : X.mg x = some (.ref C)) (he : PE X e te) (hdb : (x == ("__debug__" : Str)) = false := by decide) :
    PE X (.Call (.Name x p) [] [⟨some arg, e, kpos⟩] pos) (tErr C fld te) := by
  refine ⟨fun pins s σ H Q I h => ?_⟩
  obtain ⟨nm, qn, N, bs, bm, sn, sub, ab, col, dd, k0, k1, k2, k3, k5, hC, hbm⟩ := T.cls
  refine wpAny_Call_Name_kw (ld_glob I hg hm ?_ hdb)
  have hA : PK X [⟨some arg, e, kpos⟩] (tCons te tNil) := pk_cons he pk_nil
  refine callWith_KW0 (h₀ := X.base) I.ok.mod.kin T.kC rfl ?_ rfl
  refine thn (hA.run pos pins s σ H (fun vs H1 => match vs with
    | [v] => ∀ a dx, H1 a = none → H1 dx = none → dx ≠ a → Q (.ref a) (errH H1 a dx C fld v)
    | _ => False) I h) fun us s1 ⟨vs, H1, I1, r1, q1⟩ => ⟨I1.kIn, ?_⟩
  obtain ⟨v, u, rfl, rfl, rv⟩ : ∃ v u, vs = [v] ∧ us = [u] ∧ RelV v u := by
    cases r1 with
    | nil => exact q1.elim
    | cons ra rr =>
      cases rr with
      | nil => exact ⟨_, _, rfl, rfl, ra⟩
      | cons _ _ => exact q1.elim
  exact run_errK T hC hbm iC tI F1 hr I1 rv (fun s2 o => hb s2 o u) (fun a hn dx hd ne => q1 a dx hn hd ne)
/-- e.f of an error that was made here -/
def tErrF (K : Frag) (f : Str) (te : TE) : TE := fun σ H Q => te σ H fun y H1 => ∃ (a dx C : Addr) (fs : List (Str × V)) (v : V), y = .ref a ∧ H1 a = some (exo a C (some dx)) ∧ H1 dx = some (exd dx fs) ∧
  fs.lookup f = some v ∧ XfC K C ∧ findIn K (.ref C) f = some none ∧ Q v H1
theorem err_inst {pins : List (Addr × Obj)} {σ : L2.St} {H1 : Hp} {s1 : Shared} {a dx : Addr} {fs : List (Str × V)} (I1 : Inv X pins σ H1 s1) (ea : H1 a = some (exo a C (some dx))) (ed : H1 dx = some (exd dx fs)) :
    ∃ (ox od : Obj) (mA : Str → Option Value), InstAt s1.heap a ox C (some od) ∧ (∀ f, RelO (fs.lookup f) (mA f)) ∧ ∀ n, lookIn n od = some (mA n) := by
  obtain ⟨t1, ho⟩ := exo_at I1.hok ea
  obtain ⟨mA, hns, rel⟩ := exd_at I1.hok ed
  obtain ⟨od, hod, hl⟩ := lookIn_ns hns
  exact ⟨_, od, mA, ⟨ho, rfl, rfl, hod⟩, rel, hl⟩
theorem pe_errF {f : Str} (he : PE X e te) (hb : attributeBase e f X.env (eval e X.env) = eval e X.env := by rfl) : PE X (.Attribute e f pos) (tErrF X.K f te) := by
  refine ⟨fun pins s σ H Q I h => ?_⟩
  refine attr_of hb (thn (he.run pins s σ H _ I h) fun u s1 hh => ?_)
  obtain ⟨y, H1, I1, ry, a, dx, C, fs, v, ey, ea, ed, l, T, hno, q⟩ := hh
  subst ey
  obtain rfl : u = Value.ref a := ry
  obtain ⟨ox, od, mA, J, rel, hl⟩ := err_inst I1 ea ed
  obtain ⟨u, hu, ru⟩ := RelO.some_of (v := v) (o := mA f) (by rw [← l]; exact rel f)
  exact PySem.HandSPX.exc_get I1.kIn J T.ga T.gg T.exC (findObj_own T.hdC hno rfl (by rw [hl, hu])) (handed_of ru) ⟨v, H1, I1.tok _, ru, q⟩
/-- what isinstance asks of an own error's class -/
structure IsX (K : Frag) (C : Addr) : Prop where
  x : XfC K C
  hcl : (clsIn K C).isSome = true
  ha : findIn K (.ref C) "__class__" = some (some (.builtin "object.__class__"))
  hn : specialIn K (.builtin "object.__class__") "__get__" = some (some (.builtin "getset_descriptor.__get__"))
  htk : takesIn K (.builtin "object.__class__") = some true
  hm : mroIn K C (.type "object") = some true
/-- isinstance(e, c) of an error that was made here -/
def rIsX (K : Frag) : List V → Hp → VK → Prop := fun xs H Q => ∃ (a dx C : Addr) (fs : List (Str × V)) (c : V) (cv : Value) (b : Bool), xs = [.ref a, c] ∧ H a = some (exo a C (some dx)) ∧ H dx = some (exd dx fs) ∧
  IsX K C ∧ ClsV c cv ∧ kitOne K (.ref C) cv = some b ∧ Q (.bl b) H
theorem call_isX : CallR X (.builtin "isinstance") (rIsX X.K) := by
  intro pins s σ H xs us Q I r h
  obtain ⟨a, dx, C, fs, c, cv, b, rfl, ea, ed, T, kc, ek, q⟩ := h
  obtain ⟨u1, u2, rfl, r1, r2⟩ := vals2 r
  have e2 := kc.eq r2
  subst e2
  obtain rfl : u1 = Value.ref a := r1
  obtain ⟨ox, od, mA, J, _, _⟩ := err_inst I ea ed
  exact kia_one (kitx_exc T.hcl T.x.ga T.x.gg T.x.exC T.ha T.hn T.htk T.hm) I.kIn J ek (fun z => nomatch z) fun tk => ⟨.bl b, H, I.tok tk, rfl, q⟩
/-- isinstance(e, (c, ..)) of an error that was made here, the tuple just laid -/
def rIsXT (K : Frag) : List V → Hp → VK → Prop := fun xs H Q => ∃ (a dx C tp : Addr) (fs : List (Str × V)) (cs : List V) (cvs : List Value) (b : Bool), xs = [.ref a, .ref tp] ∧ H a = some (exo a C (some dx)) ∧ H dx = some (exd dx fs) ∧
  IsX K C ∧ H tp = some (.tup cs) ∧ Paired ClsV cs cvs ∧ kitAny K (.ref C) cvs = some b ∧ Q (.bl b) H
theorem call_isXT : CallR X (.builtin "isinstance") (rIsXT X.K) := by
  intro pins s σ H xs us Q I r h
  obtain ⟨a, dx, C, tp, fs, cs, cvs, b, rfl, ea, ed, T, hT, kc, ek, q⟩ := h
  obtain ⟨u1, u2, rfl, r1, r2⟩ := vals2 r
  obtain rfl : u2 = Value.ref tp := r2
  obtain rfl : u1 = Value.ref a := r1
  obtain ⟨ox, od, mA, J, _, _⟩ := err_inst I ea ed
  obtain ⟨_, its, rv, o, h1, h2, n, h3⟩ := (show ObjOk X.prog X.w H s.heap tp (.tup cs) from I.hok tp _ hT)
  have e3 := ClsV.all kc rv
  subst e3
  obtain ⟨oc, od', dt, sl⟩ := o
  simp only at h2 h3
  subst h2 h3
  exact kia_tup (kitx_exc T.hcl T.x.ga T.x.gg T.x.exC T.ha T.hn T.htk T.hm) I.kIn J h1 ek (fun z => nomatch z) fun tk => ⟨.bl b, H, I.tok tk, rfl, q⟩
/-- repr of a list or a tuple of data, where nothing is being shown -/
def rRepr (K : Frag) : List V → Hp → VK → Prop := fun xs H Q => ∃ (a : Addr) (dt : PyData), xs = [.ref a] ∧ Dp K H (.ref a) dt ∧ dt.showable = true ∧ dt.hasDict = false ∧ dt.depth ≤ 20 ∧ dt.shown.length ≤ sizeLine ∧ Q (.str dt.shown) H
theorem call_reprD {j : Nat} (hg : X.A.guards = some []) (hr : Room j X.A) : CallR X (.builtin "repr") (rRepr X.K) := by
  intro pins s σ H xs us Q I r h
  obtain ⟨a, dt, rfl, hd, hs, hn, hdp, hz, q⟩ := h
  obtain ⟨u1, rfl, r1⟩ : ∃ u1, us = [u1] ∧ RelV (.ref a) u1 := by
    cases r with
    | cons ra rr =>
      cases rr
      exact ⟨_, rfl, ra⟩
  obtain rfl : u1 = Value.ref a := r1
  obtain ⟨as, rd⟩ := Dp.reads I dt _ _ hd (show RelV (.ref a) (Value.ref a) from rfl)
  have hu := hr.un
  refine repr_of_reads' rd hs (fun z => by rw [hn] at z; cases z) hg (by omega) (fun b o z => z) (fun h' u tk hk => ?_) hz
  exact ⟨.str dt.shown, H, I.un (t' := tk) (Un.kept hk) (I.hok.kept hk), ⟨u, rfl⟩, q⟩
end
end TS
namespace TS
open PySem PySem.Spec PyProof.Rows L2
/-! repr of a tree, a text, a number, None, an empty list or dict, also while an exception is handled -/
theorem small_log {n : Int} (h : n.natAbs < 2 ^ 4) : n.natAbs.log2 < 4 := by
  by_cases z : n.natAbs = 0
  · rw [z]; decide
  · exact (Nat.log2_lt z).mpr h
theorem Tr.showable : ∀ t : Tr, t.fine → t.data.showable = true
  | .num n, h => by
    obtain ⟨h1, h2⟩ := h
    have := small_log (n := n) (by omega)
    simp only [Tr.data, PyData.showable, decide_eq_true_eq]
    omega
  | .wd x, _ => by simp [Tr.data, PyData.showable]
  | .ch a b c d, h => by simp [Tr.data, PyData.showable, PyData.showableAll, Tr.showable a h.1, Tr.showable b h.2.1, Tr.showable c h.2.2.1, Tr.showable d h.2.2.2]
theorem Tr.noDict : ∀ t : Tr, t.data.hasDict = false
  | .num n => by simp [Tr.data, PyData.hasDict]
  | .wd x => by simp [Tr.data, PyData.hasDict]
  | .ch a b c d => by simp [Tr.data, PyData.hasDict, PyData.hasDictAll, Tr.noDict a, Tr.noDict b, Tr.noDict c, Tr.noDict d]
theorem digit_short : ∀ n : Fin 10, (PyData.int (n.val : Int)).shown.length ≤ 200 := by decide +kernel
theorem Tr.short : ∀ t : Tr, t.fine → PyData.leavesShort 200 t.data = true
  | .num n, h => by
    obtain ⟨h1, h2⟩ := h
    have e := digit_short ⟨n.toNat, by omega⟩
    have e2 : ((n.toNat : Nat) : Int) = n := Int.toNat_of_nonneg h1
    rw [show (((⟨n.toNat, by omega⟩ : Fin 10).val : Nat) : Int) = n from e2] at e
    simpa [Tr.data, PyData.leavesShort] using e
  | .wd x, h => by
    have p := plain_word h
    simp only [Tr.data, PyData.leavesShort, ← Array.all_toList, List.all_eq_true, decide_eq_true_eq]
    intro c hc
    have := p c hc
    omega
  | .ch a b c d, h => by simp [Tr.data, PyData.leavesShort, PyData.leavesShortAll, Tr.short a h.1, Tr.short b h.2.1, Tr.short c h.2.2.1, Tr.short d h.2.2.2]
theorem Tr.weight_le : ∀ (n : Nat) (t : Tr), t.fine → t.deep ≤ n → t.data.weight ≤ 9 * 5 ^ n
  | n, .num k, h, _ => by
    have p : 1 ≤ 5 ^ n := Nat.pow_pos (by decide)
    have : k.natAbs < 2 ^ 4 := by
      obtain ⟨h1, h2⟩ := h
      omega
    simp only [Tr.data, PyData.weight]
    split
    · omega
    · have := small_log this
      omega
  | n, .wd x, h, _ => by
    have p : 1 ≤ 5 ^ n := Nat.pow_pos (by decide)
    have := h.2.1
    simp only [Tr.data, PyData.weight]
    have e : x.cps.size ≤ 8 := this
    omega
  | 0, .ch a b c d, _, h => by simp [Tr.deep] at h
  | n + 1, .ch a b c d, h, hd => by
    have q : a.deep ≤ n ∧ b.deep ≤ n ∧ c.deep ≤ n ∧ d.deep ≤ n := by
      simp only [Tr.deep] at hd
      omega
    have p : 1 ≤ 5 ^ n := Nat.pow_pos (by decide)
    have h1 := Tr.weight_le n a h.1 q.1
    have h2 := Tr.weight_le n b h.2.1 q.2.1
    have h3 := Tr.weight_le n c h.2.2.1 q.2.2.1
    have h4 := Tr.weight_le n d h.2.2.2 q.2.2.2
    simp only [Tr.data, PyData.weight, PyData.weightAll, Nat.pow_succ]
    omega
theorem Tr.shown_le {t : Tr} (h : t.fine) (hd : t.deep ≤ 3) : t.data.shown.length ≤ sizeLine := by
  have h1 := PyData.shown_le 200 (by decide) t.data (Tr.short t h)
  have h2 := Tr.weight_le 3 t h hd
  have h3 : (5 : Nat) ^ 3 = 125 := by decide
  rw [h3] at h2
  have h4 : (200 + 2) * t.data.weight + 200 ≤ 16777216 := by omega
  rw [sizeLine_eq]
  omega
/-- what repr tells of a value -/
inductive Rep (K : PySem.W.Frag) (H : Hp) : V → Str → Prop
  | dat {a : Addr} {dt : PyData} : Dp K H (.ref a) dt → dt.showable = true → dt.hasDict = false → dt.depth ≤ 20 → dt.shown.length ≤ sizeLine → Rep K H (.ref a) dt.shown
  | emp {a : Addr} : H a = some (.dK []) → Rep K H (.ref a) (PyData.dict []).shown
  | non : Rep K H .non "None"
  | bl (b : Bool) : Rep K H (.bl b) (if b = true then "True" else "False")
  | int {i : Int} : i.natAbs.log2 < 1920 → Rep K H (.int i) (toString i)
  | str {x : Str} : (reprText x).length ≤ sizeLine → Rep K H (.str x) (reprText x)
theorem rep_text {K : PySem.W.Frag} {H : Hp} {x : Str} (h : Plain x) (hl : x.length ≤ 1000) : Rep K H (.str x) (reprText x) := by
  refine .str ?_
  have := StrLaws.reprText_len x fun c hc => by
    have := h c hc
    have e : (16 : Nat) ^ 8 = 4294967296 := by decide
    omega
  rw [sizeLine_eq]
  omega
theorem rep_tree {K : PySem.W.Frag} {H : Hp} {v : V} {t : Tr} (h : TrAt H v t) (hf : t.fine) (hd : t.deep ≤ 3) : ∃ s, Rep K H v s := by
  cases h with
  | num n =>
    obtain ⟨h1, h2⟩ := hf
    have := small_log (n := n) (by omega)
    exact ⟨_, .int (by omega)⟩
  | wd x =>
    refine ⟨_, rep_text (plain_word hf) ?_⟩
    have := hf.2.1
    have e : x.length ≤ 8 := this
    omega
  | ch hp ha hb hc hdd =>
    have hT := TrAt.ch hp ha hb hc hdd
    refine ⟨_, .dat (Tr.dp hT) (Tr.showable _ hf) (Tr.noDict _) ?_ (Tr.shown_le hf hd)⟩
    refine Nat.le_trans (Nat.le_of_succ_le_succ (Tr.ddepth _)) (Nat.le_trans hd (by decide))
def rRepX (K : PySem.W.Frag) : List V → Hp → VK → Prop := fun xs H Q => ∃ (v : V) (t : Str), xs = [v] ∧ Rep K H v t ∧ Q (.str t) H
section
variable {X : Cx}
theorem call_reprX (hg : X.A.guards = some []) (hu : X.A.units + 64 < cLine) : CallR X (.builtin "repr") (rRepX X.K) := by
  intro pins s σ H xs us Q I r h
  obtain ⟨v, t, rfl, hR, q⟩ := h
  obtain ⟨u1, rfl, r1⟩ : ∃ u1, us = [u1] ∧ RelV v u1 := by
    cases r with
    | cons ra rr =>
      cases rr
      exact ⟨_, rfl, ra⟩
  cases hR with
  | dat hd hs hn hdp hz =>
    rename_i a dt
    obtain rfl : u1 = Value.ref a := r1
    obtain ⟨as, rd⟩ := Dp.reads I dt _ _ hd (show RelV (.ref a) (Value.ref a) from rfl)
    refine repr_of_reads' rd hs (fun z => by rw [hn] at z; cases z) hg (by omega) (fun b o z => z) (fun h' u tk hk => ?_) hz
    exact ⟨.str dt.shown, H, I.un (t' := tk) (Un.kept hk) (I.hok.kept hk), ⟨u, rfl⟩, q⟩
  | emp hd =>
    rename_i a
    obtain rfl : u1 = Value.ref a := r1
    have z := I.hok a _ hd
    simp only [L2.ObjOk] at z
    obtain ⟨_, ns, vs, kv, o, es, ep, ho, ex, od, _, pp, _⟩ := z
    cases kv
    have ee : es.toList = [] := by
      cases e : es.toList with
      | nil => rfl
      | cons x l => rw [e] at pp; cases pp
    have rd : Reads s.heap (.ref a) (.dict []) (a :: [] ++ []) := .dict ho ex.1 od (by rw [ee]; exact .nil) (by rw [ee]; exact .nil)
    refine repr_of_reads' rd rfl (fun _ m => ?_) hg (by show X.A.units + ((PyData.dict []).depth + 1) < cLine; have e : (PyData.dict []).depth ≤ 5 := by decide +kernel
                                                        omega) (fun b o z => z) (fun h' u tk hk => ?_) (by decide +kernel)
    · simp at m
      subst m
      simp at ns
    · exact ⟨.str (PyData.dict []).shown, H, I.un (t' := tk) (Un.kept hk) (I.hok.kept hk), ⟨u, rfl⟩, q⟩
  | non =>
    obtain rfl : u1 = Value.none := r1
    exact P.repr_of_none ⟨.str "None", H, I.tok _, ⟨_, rfl⟩, q⟩
  | bl b =>
    obtain rfl : u1 = Value.bool b := r1
    refine P.repr_of_bool ?_
    exact ⟨.str (if b = true then "True" else "False"), H, I.tok _, ⟨_, rfl⟩, q⟩
  | int hi =>
    obtain ⟨tk, rfl⟩ := r1
    rename_i i
    exact P.repr_of_int hi ⟨.str (toString i), H, I.tok _, ⟨_, rfl⟩, q⟩
  | str hx =>
    obtain ⟨tk, rfl⟩ := r1
    rename_i x
    exact P.repr_of_str ⟨.str (reprText x), H, I.tok _, ⟨_, rfl⟩, q⟩ hx
end
end TS
namespace TS
open PySem PySem.Spec PyProof.Rows PySem.W PySem.Calls L2
/-- the def at f keeps sp where nothing is being shown (no repr under way) -/
structure FnG (P : Program) (w : World) (K : Frag) (mg : Str → Option Value) (base : Heap) (k : Nat) (f : Addr) (fd : FuncData) (ps : List Str) (sp : Sp) : Prop where
  len : ∀ vs H Q E, sp vs H Q E → vs.length = ps.length
  run : ∀ (A : Around) (outer : List Env) (s : Shared) (H : Hp) (args : Args) (us : List Value) (vs : List V) (Q : VK) (E : XK), A.guards = some [] → Room k A → Env0 P w K mg base A outer s H → BindsTo s fd args (ps.zip us) → Vals vs us → sp vs H Q E →
    codeAny (model P w) A (.call (.ref f) args) (CR CX0 outer P w H s Q E) s
section
variable {P : Program} {w : World} {K : Frag} {mg : Str → Option Value} {base : Heap}
theorem okG {x qual : Str} {st : Stmt} {f : Addr} {fd : FuncData} {N ps : List Str} {k : Nat} {sp : Sp} (F : Fun K x qual st f fd) (S : FnScope N ps (defScope st)) (len : ∀ vs H Q E, sp vs H Q E → vs.length = ps.length)
    (hbody : ∀ (cdv : Value) (A : Around) (outer : List Env) (s : Shared) (H : Hp) (vs : List V) (Q : VK) (E : XK), A.guards = some [] → Room k (A.deeper (envOfC qual (defScope st) s.heap.objs.size f cdv)) → sp vs H Q E →
      ∃ t, PSs (cxOf CX0 P w K mg base N qual (defScope st) f cdv A outer s H E).nox (defBody st) t ∧ t { nx := fun _ H' => Q .non H', rt := Q } (start N vs) H) : FnG P w K mg base (k + 1) f fd ps sp := by
  obtain ⟨oc, od, kV, doc, pm, an, cdv, ct, osl, rfl, lk, hcd⟩ := F.ex
  refine ⟨len, fun A outer s H args us vs Q E hg hr e0 hb r hsp => ?_⟩
  have hl := len _ _ _ _ hsp
  have KX : K.In s.heap := e0.mod.kin.keeps fun b o z => (e0.bs b o z).1
  have nolim : s.heap.NoLimit := e0.mod.nolimit.keeps fun b o z => (e0.bs b o z).1
  have kinds : ∀ y ∈ ps.zip us, (defScope st).names.lookup y.1 = some .local ∨ ((defScope st).names.lookup y.1 = some .cell ∧ ((cellsFrom (s.heap.objs.size + 1) (defScope st).names []).lookup y.1).isSome = true) := fun ⟨n, v⟩ hy => by
    rcases S.par n (List.of_mem_zip hy).1 with z | z
    · exact .inl z
    · exact .inr ⟨z, cellsFrom_some _ _ _ (.inl z)⟩
  refine codeAny_call_function hr.depth (KX _ _ lk) rfl S.co S.gen rfl (codeRec_of KX hcd) (hb _ _ _ _ ?_)
  refine wpAny_newFunctionEnv_cells S.kind kinds fun env he s1 ic => ?_
  subst he
  refine ⟨nolim.keeps ic.toInCall.keep, codeAny_func ?_⟩
  obtain ⟨t, ht, hq⟩ := hbody cdv A outer s H vs Q E hg (hr.deeper _) hsp
  have J : Inv (cxOf CX0 P w K mg base N qual (defScope st) f cdv A outer s H E) [] (start N vs) H s1 := inv_start S hr.hd e0 hl r ic
  refine wpAny_mono (ht.nox.run [] s1 (start N vs) H _ J hq) (fun fl s' hs => ?_) fun er s' hs => hs
  have fin : ∀ {σ' : L2.St} {H' : Hp} {v : V} {u : Value}, Inv (cxOf CX0 P w K mg base N qual (defScope st) f cdv A outer s H E) [] σ' H' s' → RelV v u → Q v H' → CE outer P w H s Q u s' :=
    fun {σ' H' v u} J' rv z => ⟨v, H', J'.os, J'.bare, J'.base, J'.hok, rv, z⟩
  cases fl with
  | ret u =>
    obtain ⟨v, σ', H', J', rv, z⟩ := hs
    exact fin J' rv z
  | next =>
    obtain ⟨σ', H', J', z⟩ := hs
    exact fin (v := V.non) (u := Value.none) J' rfl z
  | brk =>
    obtain ⟨_, _, _, z⟩ := hs
    exact False.elim z
  | cont =>
    obtain ⟨_, _, _, z⟩ := hs
    exact False.elim z
end
section
variable {X : Cx} {k : Nat} {f : Addr} {fd : FuncData} {ps : List Str} {sp : Sp} {E : XK} {x : Str} {p pos : Pos} {e : Expr} {es : List Expr} {t : TA}
theorem pe_callG (F : FnG X.prog X.w X.K X.mg X.base k f fd ps sp) (hG : X.A.guards = some []) (hr : Room k X.A) (hg : Gl X x) (hm : X.mg x = some (.ref f)) (hk : keepIn X.K (.ref f) = true) (hb : Binds X.K fd ps [])
    (ha : PA X (e :: es) t) (hdb : (x == ("__debug__" : Str)) = false := by decide) (he : starEach (e :: es) X.env = (false, eval e X.env) :: starEach es X.env := by rfl) (hpl : (backTo pos (starEach es X.env)).any (·.1) = false := by rfl) :
    PE X (.Call (.Name x p) (e :: es) [] pos) (tCall sp [] E t) := by
  refine ⟨fun pins s σ H Q I h => ?_⟩
  refine wpAny_Call_Name_kw (ld_glob I hg hm ?_ hdb)
  refine callWith_K (h₀ := X.base) I.ok.mod.kin hk (thn (ha.run pos pins s σ H _ I h) fun us s1 ⟨vs, H1, I1, r, q⟩ => ⟨I1.kIn, ?_⟩) he hpl
  have r2 : Vals (vs ++ []) (us ++ []) := r.append .nil
  have hl : (us ++ []).length = ps.length := by
    rw [← r2.length]
    exact F.len _ _ _ _ q
  refine wpAny_call (codeAny_mono (F.run X.A X.stack s1 H1 ⟨us, []⟩ (us ++ []) (vs ++ []) Q E hG hr I1.env0 (hb s1 us I1.kIn hl) r2 q) fun r' s' hq => ?_)
  cases r' with
  | error er => exact hq.elim
  | ok fl =>
    cases fl with
    | ret u => exact I1.after hq
    | next => exact False.elim hq
    | brk => exact False.elim hq
    | cont => exact False.elim hq
end
end TS
namespace TS
open PySem PySem.Spec PyProof.Rows PySem.W PySem.Calls L2
theorem law_callG {P : Program} {w : World} {K : Frag} {mg mb : Str → Option Value} {k : Nat} {fa a : Addr} {fd : FuncData} {x : Str} {sp : Sp} {s1 : Shared} {vs : List Value} {ns : List Int}
    (KX : K.In s1.heap) (hns : s1.heap.Ns mainGlobals mg) (hb : s1.heap.Ns builtinsNs mb) (hbb : ∀ x : Str, x ≠ "__name__" → mb x = bootBuiltins x) (hlim : s1.heap.NoLimit) (hg : s1.gens = #[])
    (ha : s1.heap.get? a = some { cls := .type "list", data := .seq vs.toArray }) (hi : IntsAre vs ns) (hl : ns.length ≤ sizeLine) (hr : Room k callerA)
    (F : ∀ base : Heap, K.In base → base.Ns mainGlobals mg → FnG P w K mg base k fa fd [x] sp) (hbind : ∀ (s : Shared) (u : Value), BindsTo s fd ⟨[u], []⟩ [(x, u)])
    (hsp : ∀ H : Hp, Only H → SqL K H a (ns.map V.int) → sp [.ref a] H (fun v _ => v = .bl true) fun _ _ _ => False) :
    codeAny (model P w) callerA (.call (.ref fa) ⟨[.ref a], []⟩) (fun r s' => r = .ok (.ret (.bool true)) ∧ OldK s1.heap s'.heap ∧ s'.os = s1.os ∧ AllBare s'.gens) s1 := by
  have rv := vals_ints hi
  have lenV := hi.length
  have core : ∀ H : Hp, Only H → SqL K H a (ns.map V.int) → HOk P w H s1.heap → (∀ b, H b ≠ none → b = a) → (H a ≠ none → K.lookup a = none) →
      codeAny (model P w) callerA (.call (.ref fa) ⟨[.ref a], []⟩) (fun r s' => r = .ok (.ret (.bool true)) ∧ OldK s1.heap s'.heap ∧ s'.os = s1.os ∧ AllBare s'.gens) s1 := by
    intro H hO hS hok hA hK
    have lay : ∀ {b : Addr} {o : Obj}, s1.heap.get? b = some o → H b = none → (hidT s1.heap H).get? b = some o := fun z n => hidT_get z n
    have dic : ∀ {b : Addr} {o : Obj} {es : Array DictEntry} {ep : Nat}, s1.heap.get? b = some o → o.data = .dict es ep → H b = none := fun {b o es ep} z y => by
      cases c : H b with
      | none => rfl
      | some u =>
        have e' : b = a := hA b (by rw [c]; simp)
        subst e'
        rw [ha] at z
        cases z
        have y' : Data.seq vs.toArray _ = Data.dict es ep := y
        cases y'
    have nsK : ∀ {b : Addr} {m : Str → Option Value}, s1.heap.Ns b m → (hidT s1.heap H).Ns b m := fun {b m} ⟨o, es, ep, z, y, r⟩ => ⟨o, es, ep, lay z (dic z y), y, r⟩
    have hKb : K.In (hidT s1.heap H) := fun b o z => lay (KX b o z) (by
      cases c : H b with
      | none => rfl
      | some u =>
        have e' : b = a := hA b (by rw [c]; simp)
        subst e'
        rw [hK (by rw [c]; simp)] at z
        cases z)
    have hM : Mod K mg (hidT s1.heap H) := ⟨hKb, nsK hns, ⟨mb, nsK hb, hbb⟩, let ⟨mc, h1, h2⟩ := hlim; ⟨mc, nsK h1, h2⟩⟩
    have e0 : Env0 P w K mg (hidT s1.heap H) callerA [] s1 H :=
      ⟨rfl, hM, fun b o z => of_hidT z, Nat.le_of_eq (hidT_size _ _), trivial, fun b z => absurd (show b ∈ ([] : List Addr) from z) (by simp), hok, .of_eq hg⟩
    have go := (F _ hKb (nsK hns)).run callerA [] s1 H ⟨[.ref a], []⟩ [.ref a] [.ref a] _ _ rfl hr e0 (hbind s1 (.ref a)) (.cons rfl .nil) (hsp H hO hS)
    refine codeAny_mono go fun r s' h => ?_
    cases r with
    | error er => exact h.elim
    | ok fl =>
      cases fl with
      | next => exact False.elim h
      | brk => exact False.elim h
      | cont => exact False.elim h
      | ret u =>
        obtain ⟨v, H', os, bare, un, hok', r', q⟩ := h
        have q' : v = .bl true := q
        subst q'
        obtain rfl : u = Value.bool true := r'
        refine ⟨rfl, OldK.of_keep fun b o z => ?_, os, bare⟩
        cases c : H b with
        | none => exact un.keep b o z c (fun y => absurd (show b ∈ ([] : List Addr) from y) (by simp)) (by simp)
        | some u =>
          rcases hO b with y | ⟨ob, xs, y⟩
          · rw [c] at y
            cases y
          · have y2 := un.frzs b ob _ y
            obtain ⟨g1, _⟩ := hok b _ y
            obtain ⟨g2, _⟩ := hok' b _ y2
            rw [z] at g1
            cases g1
            exact g2
  cases hk : K.lookup a with
  | some o =>
    have z := KX a o hk
    rw [ha] at z
    cases z
    exact core (fun _ => none) (fun _ => .inl rfl) (.inr ⟨_, vs.toArray, _, hk, rfl, rfl, rfl, by rw [List.size_toArray, lenV]; exact hl, by simpa using rv⟩)
      (fun b u z => by
        have z' : (none : Option HO) = some u := z
        cases z') (fun b z => absurd rfl z) fun z => absurd rfl z
  | none =>
    refine core (fun b => if b = a then some (.frz { cls := .type "list", data := .seq vs.toArray } (.lst (ns.map V.int))) else none) (fun b => ?_) (.inl (.inr ⟨{ cls := .type "list", data := .seq vs.toArray }, if_pos rfl⟩)) (fun b u z => ?_) (fun b z => ?_) fun _ => hk
    · by_cases y : b = a
      · exact .inr ⟨_, _, if_pos y⟩
      · exact .inl (if_neg y)
    · by_cases y : b = a
      · have z' := (if_pos y).symm.trans z
        cases z'
        subst y
        exact ⟨ha, by rw [List.length_map]; exact hl, vs, _, rv, ha⟩
      · have z' := (if_neg y).symm.trans z
        cases z'
    · by_cases y : b = a
      · exact y
      · exact absurd (if_neg y) z
/-- what a law promises: from a list of at most 63 ints True comes out -/
def spLaw (K : Frag) : Sp := fun vs H Q _ => ∃ (a : Addr) (ns : List Int), vs = [.ref a] ∧ SqL K H a (ns.map V.int) ∧ ns.length ≤ 63 ∧ ∀ H', Q (.bl true) H'
theorem walkG {l : OpenLaw} {k : Nat} {q : Program} {loose : List Str} {XP : (Str → Option Value) → Heap → Prop} {YP : World → Heap → Prop} {d : DefRec} {K : Params → Frag}
    (hn : l.most = some 63) (hdf : d.params.defaults = []) (hr : Room k callerA)
    (hY : ∀ (w : World) (h : Heap), YP w h → (K w.params).In h)
    (F : ∀ (w : World) (mg : Str → Option Value) (fa : Addr) (h : Heap), (K w.params).In h → h.Ns mainGlobals mg → mg d.name = some (.ref fa) →
      ∃ fd : FuncData, (∀ (s : Shared) (u : Value), BindsTo s fd ⟨[u], []⟩ [("script", u)]) ∧
        ∀ base : Heap, (K w.params).In base → base.Ns mainGlobals mg → FnG l.prog w (K w.params) mg base k fa fd ["script"] (spLaw (K w.params))) :
    WalkO q loose XP YP l.row.toRowW d [] (fun f vs => PySem.call f vs) := by
  refine Att.attach_call hn hdf fun w s0 s1 mg mb fa o pm cd doc a vs ns G Y ho hd hcd hmg hobj hints hlen hg => ?_
  have KX := hY w _ Y
  obtain ⟨fd, hb, hF⟩ := F w mg fa _ KX G.T.g hmg
  exact law_callG KX G.T.g G.T.b G.T.builtins G.T.nolimit hg hobj hints (Nat.le_trans hlen (by decide)) hr hF hb (fun H hO hS => ⟨a, ns, rfl, hS, hlen, fun _ => rfl⟩)
end TS
namespace TS
open PySem L2
theorem Rep.same {K : PySem.W.Frag} {H H' : Hp} {v : V} {t : Str} (h : Rep K H v t) (s : Same H H') : Rep K H' v t := by
  cases h with
  | dat hd a b c d => exact .dat (dp_same s _ _ hd) a b c d
  | emp h => exact .emp (s _ _ h)
  | non => exact .non
  | bl b => exact .bl b
  | int h => exact .int h
  | str h => exact .str h
def HasG (P : Program) (w : World) (K : PySem.W.Frag) (mg : Str → Option Value) (base : Heap) (name : Str) (k : Nat) (ps : List Str) (sp : Sp) : Prop :=
  ∃ (f : Addr) (fd : FuncData), mg name = some (.ref f) ∧ PySem.W.keepIn K (.ref f) = true ∧ Binds K fd ps [] ∧ FnG P w K mg base k f fd ps sp
/-- what a delay refuses, and by what it is told -/
def RefD (K : PySem.W.Frag) (H : Hp) (pls : List (Str × Nat)) (v x : V) : Prop :=
  (∃ (q : Addr) (xs : List V) (st : Nat → Bool) (k : Nat), v = .ref q ∧ RowAt H q xs ∧ (∀ (i : Nat) y, xs[i]? = some y → PlCase K H pls y (st i)) ∧ xs[k]? = some x ∧ st k = false ∧ ∀ j, j < k → st j = true) ∨
  (x = .non ∧ ∃ ty, TyX K H v ty ∧ PySem.W.kitAny K ty [.type "list", .type "tuple"] = some false)
end TS
namespace TS
open PySem PySem.Spec PyProof.Rows PySem.W L2
/-! an own object that is called: its own __call__ -/
section
variable {M : Model} {A : Around} {E : Value → Shared → Prop} {s : Shared} {pos : Pos} {f : Value} {first : List Value} {args : List (Bool × Sem Value)} {kws : List (Option Str × Sem Value)} {Q : Value → Shared → Prop}
theorem callWith_other (hp : (args.any (·.1) || kws.any (·.1.isNone)) = false)
    (h : wpAny M A (evalArgs f true args kws) (fun r t => Looks M t.heap (keeperOf f) Keeper.caller ∧ wpAny M A (call f (first ++ r.pos) r.kw) Q E t) E s) : wpAny M A (callWith pos f first args kws) Q E s := by
  unfold callWith
  refine wpAny_bind (wpAny_holding (wpAny_mono h ?_ fun _ _ z => z))
  rintro r t ⟨L, hc⟩
  refine wpAny_bind (wpAny_standAt ?_)
  simp only [hp]
  refine wpAny_bind (L.here (wpAny_bind (wpAny_operate' (wpAny_mono hc ?_ fun _ _ z => z))))
  intro v t2 hv
  exact wpAny_bind (wpAny_holding (wpAny_point (wpAny_pure hv)))
end
section
variable {P : Program} {w : World} {A : Around} {s : Shared} {K : Frag} {a C dx g : Addr} {od : Option Obj} {ar : Args} {R : Result → Shared → Prop}
theorem keeper_inst (ha : s.heap.get? a = some (instObj C dx)) : Looks (model P w) s.heap (keeperOf (.ref a)) Keeper.caller := by
  refine (Looks.ld (part := none) ha).andThen ?_
  exact .now
theorem code_inst {og : Obj} {fd : FuncData} (KI : K.In s.heap) (ha : s.heap.get? a = some (instObj C dx)) (hs : findIn K (.ref C) "__call__" = some (some (.ref g))) (hf : isFn K (.ref g) = true) (hg : K.lookup g = some og) (hgd : og.data = .func fd)
    (h : codeAny (model P w) A (.call (.ref g) { ar with pos := .ref a :: ar.pos }) R s) : codeAny (model P w) A (.call (.ref a) ar) R s := by
  refine codeAny_of_tree ?_
  show wpAny _ A.in1 (callAny (.ref a) ar) _ _ s
  simp only [callAny]
  refine wpAny_bind (wpAny_load ha ?_)
  simp only [callAny.viaDunder]
  have LT : Looks (model P w) s.heap (typeOf (.ref a)) (.ref C) := fun A Q E t k q => wpAny_typeOf_ref (k _ _ ha) q
  unfold specialOf
  refine wpAny_bind (wpAny_bind (LT.here ((looks_findIn KI hs).here ?_)))
  refine wpAny_bind ((bind_fn KI _ (beq_iff_eq.mp hf)).here ?_)
  simp only [callAny.plainCallee]
  refine wpAny_bind (wpAny_bind (wpAny_load (KI _ _ hg) ?_))
  simp only [hgd]
  refine wpAny_pure ?_
  exact wpAny_pure (And.intro rfl h)
end
def tCallObj (C : Addr) (sp : Sp) (E : L2.St → XK) (to : TE) (t : TA) : TE := fun σ H Q => to σ H fun x H1 => ∃ a, x = .ref a ∧ t σ H1 fun vs H2 => (∃ dx fs, H2 a = some (.ins C dx fs)) ∧ sp (x :: vs) H2 Q (E σ)
section
variable {X : Cx} {CX : CXT} {k : Nat} {C f : Addr} {fd fd2 : FuncData} {og : Obj} {ps : List Str} {sp : Sp} {E : L2.St → XK} {o e : Expr} {es : List Expr} {pos : Pos} {to : TE} {t : TA}
theorem pe_callObj (ho : PE X o to) (hs : findIn X.K (.ref C) "__call__" = some (some (.ref f))) (hf : isFn X.K (.ref f) = true) (hg : X.K.lookup f = some og) (hgd : og.data = .func fd2) (F : FnOk X.prog X.w X.K X.mg X.base CX k f fd ps sp) (hr : Room k X.A) (hb : Binds X.K fd ps []) (hx : ∀ σ, PassesAt CX X σ (E σ)) (ha : PA X (e :: es) t)
    (hst : starEach (e :: es) X.env = (false, eval e X.env) :: starEach es X.env := by rfl) (hpl : (backTo pos (starEach es X.env)).any (·.1) = false := by rfl)
    (ht : eval (.Call o (e :: es) [] pos) X.env = (do
      let fv ← eval o X.env
      callWith pos fv [] (backTo pos (starEach (e :: es) X.env)) (backToKw pos (keywordEach [] X.env))) := by rfl) :
    PE X (.Call o (e :: es) [] pos) (tCallObj C sp E to t) := by
  refine ⟨fun pins s σ H Q I h => ?_⟩
  rw [ht]
  refine wpAny_bind (thn (ho.run pins s σ H _ I h) fun u s1 ⟨x, H1, I1, rx, a, ex, q⟩ => ?_)
  subst ex
  obtain rfl : u = Value.ref a := rx
  have aw := ha.run pos pins s1 σ H1 _ I1 q
  rw [hst] at aw ⊢
  refine callWith_other ?_ (Calls.evalArgs_plain (wpAny_mono aw ?_ fun _ _ z => z))
  · show ((false || (backTo pos (starEach es X.env)).any (·.1)) || false) = false
    rw [hpl]
    rfl
  rintro us s2 ⟨vs, H2, I2, r, ⟨dx, fs, hi⟩, q2⟩
  obtain ⟨mA, J, _⟩ := ins_get I2.hok hi
  have hat : s2.heap.get? a = some (instObj C dx) := J.1
  refine ⟨keeper_inst hat, ?_⟩
  have r2 : Vals (.ref a :: vs) (Value.ref a :: us) := .cons rfl r
  have hl : (Value.ref a :: us).length = ps.length := by rw [← r2.length]; exact F.len _ _ _ _ q2
  have b := hb s2 (Value.ref a :: us) I2.kIn (by rw [List.append_nil]; exact hl)
  rw [List.append_nil] at b
  refine wpAny_call (code_inst I2.kIn hat hs hf hg hgd (codeAny_mono (F.run X.A X.stack s2 H2 ⟨Value.ref a :: us, []⟩ (Value.ref a :: us) (.ref a :: vs) Q (E σ) hr I2.env0 b r2 q2) fun r s' hq => ?_))
  cases r with
  | error er => exact hx σ pins H2 s2 er s' I2 hq
  | ok fl =>
    cases fl with
    | ret u => exact I2.after hq
    | next => exact False.elim hq
    | brk => exact False.elim hq
    | cont => exact False.elim hq
end
end TS
namespace TS
open PySem PySem.Spec PyProof.Rows PySem.W L2
/-! an own object's item: its own __getitem__ -/
theorem entry_lsub : entryFor table "lifetime.subscript" = some Builtin.«lifetime.subscript» := by kernel_rfl
def tGetO (C : Addr) (sp : Sp) (E : XK) (to ti : TE) : TE := fun σ H Q => to σ H fun x H1 => ti σ H1 fun y H2 => ∃ a dx fs, x = .ref a ∧ H2 a = some (.ins C dx fs) ∧ sp [.ref a, y] H2 Q E
section
variable {X : Cx} {CX : CXT} {n : Nat} {C f : Addr} {fd fd2 : FuncData} {og : Obj} {ps : List Str} {sp : Sp} {E : XK} {o i : PySem.Expr} {pos : Pos} {to ti : TE}
theorem pe_getO (ho : PE X o to) (hi : PE X i ti) (hs : findIn X.K (.ref C) "__getitem__" = some (some (.ref f))) (hf : isFn X.K (.ref f) = true) (hg : X.K.lookup f = some og) (hgd : og.data = .func fd2) (G : FnOk X.prog X.w X.K X.mg X.base CX n f fd ps sp) (hb : Binds X.K fd ps []) (hx : Passes CX X E) (hr : Room (n + 1) X.A)
    (hsl : ∀ v u, subscripted i true v u = runValue (Code.builtin "lifetime.subscript" { pos := [v, u] })) (hlt : ∀ v r, letTemporaryGo o v r = pure ()) : PE X (.Subscript o i pos) (tGetO C sp E to ti) := by
  refine ⟨fun pins s σ H Q I h => ?_⟩
  refine PyProof.Rows.Subscript_ (thn (ho.run pins s σ H _ I h) fun v s1 ⟨x, H1, I1, rx, q⟩ => ?_)
  refine thn (hi.run pins s1 σ H1 _ I1 q) fun u s2 ⟨y, H2, I2, ry, a, dx, fs, ex, ha, q2⟩ => ?_
  subst ex
  obtain rfl : v = Value.ref a := rx
  obtain ⟨mA, J, _⟩ := ins_get I2.hok ha
  have hat : s2.heap.get? a = some (instObj C dx) := J.1
  have LT : Looks (model X.prog X.w) s2.heap (typeOf (.ref a)) (.ref C) := fun A Q E t k q => wpAny_typeOf_ref (k _ _ hat) q
  unfold subscriptTail getitemInPython specialOf
  refine wpAny_bind (wpAny_bind (wpAny_bind (LT.here ((looks_findIn I2.kIn hs).here ?_))))
  refine wpAny_bind (wpAny_load (I2.kIn _ _ hg) ?_)
  simp only [hgd]
  refine wpAny_pure ?_
  rw [hsl]
  refine wpAny_bind (wpAny_runValue (codeAny_builtin entry_lsub ?_))
  unfold Builtin.«lifetime.subscript»
  simp only
  unfold callSpecial? specialOf
  refine wpAny_bind (wpAny_bind (wpAny_bind (LT.here ((looks_findIn I2.kIn hs).here ?_))))
  refine wpAny_holding (wpAny_bind ((bind_fn I2.kIn _ (beq_iff_eq.mp hf)).here ?_))
  simp only [List.cons_append, List.nil_append]
  have eu : X.A.under (Code.builtin "lifetime.subscript" { pos := [Value.ref a, u] }) = X.A.in1 := rfl
  rw [eu]
  refine wpAny_bind (wpAny_mono (own_call (A := X.A.in1) I2 rfl hr.in1 G hb hx (.cons (show L2.RelV (.ref a) (Value.ref a) from rfl) (.cons ry .nil)) q2) (fun r s' z => ?_) fun _ _ e => e)
  refine wpAny_pure ?_
  refine wpAny_pure ?_
  show wpAny (model X.prog X.w) X.A (letTemporaryGo o (Value.ref a) r >>= fun _ => pure r) (EP X pins σ Q) X.xe s'
  rw [hlt]
  exact wpAny_bind (wpAny_pure (wpAny_pure z))
end
end TS
namespace TS
open PySem PySem.Spec PyProof.Rows PySem.W L2
/-! own methods and items whose errors are wished for at the caller's slots; a method without arguments by its positional promise -/
section
variable {X : Cx} {CX : CXT} {n : Nat} {C f : Addr} {fd fd2 : FuncData} {og : Obj} {ps : List Str} {sp : Sp} {E1 : XK} {E : L2.St → XK} {o i e : PySem.Expr} {es : List PySem.Expr} {pos apos : Pos} {to ti ta : TE} {t : TA} {m : Str} {pl : Sem Bool}
theorem own_callS {pins : List (Addr × Obj)} {σ : L2.St} {H : Hp} {s : Shared} {A : Around} {xs : List V} {us : List Value} {Q : VK} (I : Inv X pins σ H s) (hA : A.frames = X.A.frames) (hr : Room n A)
    (G : FnOk X.prog X.w X.K X.mg X.base CX n f fd ps sp) (hb : Binds X.K fd ps []) (hx : PassesAt CX X σ E1) (rv : Vals xs us) (h : sp xs H Q E1) :
    wpAny (model X.prog X.w) A (call (.ref f) us) (EP X pins σ Q) X.xe s := by
  have e0 : Env0 X.prog X.w X.K X.mg X.base A X.stack s H := by
    have e := I.env0
    exact ⟨by rw [hA]; exact e.frames, e.mod, e.bs, e.bsz, e.funs, e.frf, e.hok, e.bare⟩
  have hl := G.len _ _ _ _ h
  refine wpAny_call (codeAny_mono (G.run A X.stack s H ⟨us, []⟩ us xs Q E1 hr e0 (by
    have := hb s us I.kIn (by rw [List.append_nil, ← rv.length]; exact hl)
    simpa using this) rv h) fun r s' hq => ?_)
  cases r with
  | error e => exact hx pins H s e s' I hq
  | ok fl =>
    cases fl with
    | ret u => exact I.after hq
    | next => exact False.elim hq
    | brk => exact False.elim hq
    | cont => exact False.elim hq
def tGetOS (C : Addr) (sp : Sp) (E : L2.St → XK) (to ti : TE) : TE := fun σ H Q => to σ H fun x H1 => ti σ H1 fun y H2 => ∃ a dx fs, x = .ref a ∧ H2 a = some (.ins C dx fs) ∧ sp [.ref a, y] H2 Q (E σ)
theorem pe_getOS (ho : PE X o to) (hi : PE X i ti) (hs : findIn X.K (.ref C) "__getitem__" = some (some (.ref f))) (hf : isFn X.K (.ref f) = true) (hg : X.K.lookup f = some og) (hgd : og.data = .func fd2) (G : FnOk X.prog X.w X.K X.mg X.base CX n f fd ps sp) (hb : Binds X.K fd ps []) (hx : ∀ σ, PassesAt CX X σ (E σ)) (hr : Room (n + 1) X.A)
    (hsl : ∀ v u, subscripted i true v u = runValue (Code.builtin "lifetime.subscript" { pos := [v, u] })) (hlt : ∀ v r, letTemporaryGo o v r = pure ()) : PE X (.Subscript o i pos) (tGetOS C sp E to ti) := by
  refine ⟨fun pins s σ H Q I h => ?_⟩
  refine PyProof.Rows.Subscript_ (thn (ho.run pins s σ H _ I h) fun v s1 ⟨x, H1, I1, rx, q⟩ => ?_)
  refine thn (hi.run pins s1 σ H1 _ I1 q) fun u s2 ⟨y, H2, I2, ry, a, dx, fs, ex, ha, q2⟩ => ?_
  subst ex
  obtain rfl : v = Value.ref a := rx
  obtain ⟨mA, J, _⟩ := ins_get I2.hok ha
  have hat : s2.heap.get? a = some (instObj C dx) := J.1
  have LT : Looks (model X.prog X.w) s2.heap (typeOf (.ref a)) (.ref C) := fun A Q E t k q => wpAny_typeOf_ref (k _ _ hat) q
  unfold subscriptTail getitemInPython specialOf
  refine wpAny_bind (wpAny_bind (wpAny_bind (LT.here ((looks_findIn I2.kIn hs).here ?_))))
  refine wpAny_bind (wpAny_load (I2.kIn _ _ hg) ?_)
  simp only [hgd]
  refine wpAny_pure ?_
  rw [hsl]
  refine wpAny_bind (wpAny_runValue (codeAny_builtin entry_lsub ?_))
  unfold Builtin.«lifetime.subscript»
  simp only
  unfold callSpecial? specialOf
  refine wpAny_bind (wpAny_bind (wpAny_bind (LT.here ((looks_findIn I2.kIn hs).here ?_))))
  refine wpAny_holding (wpAny_bind ((bind_fn I2.kIn _ (beq_iff_eq.mp hf)).here ?_))
  simp only [List.cons_append, List.nil_append]
  have eu : X.A.under (Code.builtin "lifetime.subscript" { pos := [Value.ref a, u] }) = X.A.in1 := rfl
  rw [eu]
  refine wpAny_bind (wpAny_mono (own_callS (A := X.A.in1) I2 rfl hr.in1 G hb (hx σ) (.cons (show L2.RelV (.ref a) (Value.ref a) from rfl) (.cons ry .nil)) q2) (fun r s' z => ?_) fun _ _ e => e)
  refine wpAny_pure ?_
  refine wpAny_pure ?_
  show wpAny (model X.prog X.w) X.A (letTemporaryGo o (Value.ref a) r >>= fun _ => pure r) (EP X pins σ Q) X.xe s'
  rw [hlt]
  exact wpAny_bind (wpAny_pure (wpAny_pure z))
theorem run_fnRS {pins : List (Addr × Obj)} {σ : L2.St} {H : Hp} {s : Shared} {Q : VK} {us : List Value} {vs : List V} (F : FnR X.prog X.w X.K X.mg X.base CX n f sp) (hr : Room n X.A) (hx : PassesAt CX X σ E1) (I : Inv X pins σ H s) (r : Vals vs us) (h : sp vs H Q E1) :
    codeAny (model X.prog X.w) X.A (.call (.ref f) ⟨us, []⟩) (fun r s' => match r with | .ok (.ret v) => EP X pins σ Q v s' | .ok _ => False | .error e => X.xe e s') s := by
  refine codeAny_mono (F X.A X.stack s H us vs Q E1 hr I.env0 r h) fun r s' hq => ?_
  cases r with
  | error e => exact hx pins H s e s' I hq
  | ok fl =>
    cases fl with
    | ret u => exact I.after hq
    | next => exact False.elim hq
    | brk => exact False.elim hq
    | cont => exact False.elim hq
def tMethRS (C : Addr) (m : Str) (sp : Sp) (E : L2.St → XK) (ta : TE) (t : TA) : TE := fun σ H Q => ta σ H fun x H1 => ∃ a dx fs, x = .ref a ∧ H1 a = some (.ins C dx fs) ∧ fs.lookup m = none ∧ t σ H1 fun vs H2 => sp (x :: vs) H2 Q (E σ)
theorem pe_methRS (he : PE X o ta) (c : Cls X.K C) (hm : Meth X.K C m f)
    (F : FnR X.prog X.w X.K X.mg X.base CX n f sp) (hr : Room n X.A) (hx : ∀ σ, PassesAt CX X σ (E σ)) (ha : PA X (e :: es) t)
    (hst : starEach (e :: es) X.env = (false, eval e X.env) :: starEach es X.env := by rfl) (hpl : (backTo pos (starEach es X.env)).any (·.1) = false := by rfl)
    (ht : eval (.Call (.Attribute o m apos) (e :: es) [] pos) X.env = (do
      let ov ← eval o X.env
      standAt apos.atName
      let (f, first) ← holding [ov] (getMethod ov m pl)
      callWith pos f first (backTo pos (starEach (e :: es) X.env)) (backToKw pos (keywordEach [] X.env))) := by rfl) :
    PE X (.Call (.Attribute o m apos) (e :: es) [] pos) (tMethRS C m sp E ta t) := by
  refine ⟨fun pins s σ H Q I h => ?_⟩
  refine PySem.W.methodCall_KW (pl := pl) (thn (he.run pins s σ H _ I h) fun u s1 ⟨x, H1, I1, rx, a, dx, fs, ex, ea, l, q⟩ => ?_) ht
  subst ex
  obtain rfl : u = Value.ref a := rx
  refine getmeth_ok I1 ea c hm l ?_
  refine PySem.W.callWith_K (first := [.ref a]) (h₀ := X.base) I.ok.mod.kin hm.kp (thn (ha.run pos pins s1 σ H1 _ I1 q) fun us s2 ⟨vs, H2, I2, r, q2⟩ => ⟨I2.kIn, ?_⟩) hst hpl
  exact wpAny_call (run_fnRS (us := .ref a :: us) (vs := .ref a :: vs) F hr (hx σ) I2 (.cons rfl r) q2)
theorem pe_methR0 (he : PE X o ta) (c : Cls X.K C) (hm : Meth X.K C m f) (F : FnR X.prog X.w X.K X.mg X.base CX n f sp) (hr : Room n X.A) (hx : Passes CX X E1)
    (ht : eval (.Call (.Attribute o m apos) [] [] pos) X.env = (do
      let ov ← eval o X.env
      standAt apos.atName
      let (f, first) ← holding [ov] (getMethod ov m pl)
      callWith pos f first (backTo pos (starEach [] X.env)) (backToKw pos (keywordEach [] X.env))) := by rfl) :
    PE X (.Call (.Attribute o m apos) [] [] pos) (tMethR C m sp E1 ta tNil) := by
  refine ⟨fun pins s σ H Q I h => ?_⟩
  refine PySem.W.methodCall_KW (pl := pl) (thn (he.run pins s σ H _ I h) fun u s1 ⟨x, H1, I1, rx, a, dx, fs, ex, ea, l, q⟩ => ?_) ht
  subst ex
  obtain rfl : u = Value.ref a := rx
  refine getmeth_ok I1 ea c hm l ?_
  exact PySem.W.callWith_K0 (first := [.ref a]) I1.kIn hm.kp (wpAny_call (run_fnR (us := [.ref a]) (vs := [.ref a]) F hr hx I1 (.cons rfl .nil) q))
end
section
variable {X : Cx} {CX : CXT} {n : Nat} {Cc g : Addr} {sp : Sp} {E : L2.St → XK} {o : PySem.Expr} {pos apos : Pos} {ta : TE} {m : Str} {pl : Sem Bool}
theorem pe_methRS0 (he : PE X o ta) (c : Cls X.K Cc) (hm : Meth X.K Cc m g) (F : FnR X.prog X.w X.K X.mg X.base CX n g sp) (hr : Room n X.A) (hx : ∀ σ, PassesAt CX X σ (E σ))
    (ht : eval (.Call (.Attribute o m apos) [] [] pos) X.env = (do
      let ov ← eval o X.env
      standAt apos.atName
      let (f, first) ← holding [ov] (getMethod ov m pl)
      callWith pos f first (backTo pos (starEach [] X.env)) (backToKw pos (keywordEach [] X.env))) := by rfl) :
    PE X (.Call (.Attribute o m apos) [] [] pos) (tMethRS Cc m sp E ta tNil) := by
  refine ⟨fun pins s σ H Q I h => ?_⟩
  refine PySem.W.methodCall_KW (pl := pl) (thn (he.run pins s σ H _ I h) fun u s1 ⟨x, H1, I1, rx, a, dx, fs, ex, ea, l, q⟩ => ?_) ht
  subst ex
  obtain rfl : u = Value.ref a := rx
  refine getmeth_ok I1 ea c hm l ?_
  exact PySem.W.callWith_K0 (first := [.ref a]) I1.kIn hm.kp (wpAny_call (run_fnRS (us := [.ref a]) (vs := [.ref a]) F hr (hx σ) I1 (.cons rfl .nil) q))
end
end TS
namespace TS
open PySem PySem.Spec PyProof.Rows PySem.W L2
/-! f(e, .., k = v, ..), whose errors are wished for at the caller's slots -/
def tCallNS (n m : Nat) (sp : Sp) (gV : List V → List V → List V) (E : L2.St → XK) (t tk : TA) : TE := fun σ H Q => t σ H fun vs H1 => tk σ H1 fun zs H2 => vs.length = n ∧ zs.length = m ∧ sp (gV vs zs) H2 Q (E σ)
section
variable {X : Cx} {CX : CXT} {k n : Nat} {f : Addr} {fd : FuncData} {ps ks : List Str} {sp : Sp} {E1 : XK} {E : L2.St → XK} {x : Str} {p pos : Pos} {e : Expr} {es : List Expr} {kws : List Keyword} {t tk : TA} {g : List Value → List Value → List Value} {gV : List V → List V → List V}
theorem run_fnNS {pins : List (Addr × Obj)} {σ : L2.St} {H : Hp} {s : Shared} {Q : VK} {us ws : List Value} {vs zs : List V} (F : FnOk X.prog X.w X.K X.mg X.base CX k f fd ps sp) (hr : Room k X.A) (hb : KBn X.K fd ps n ks g gV) (hx : PassesAt CX X σ E1)
    (I : Inv X pins σ H s) (r : Vals vs us) (rz : Vals zs ws) (l1 : vs.length = n) (l2 : zs.length = ks.length) (h : sp (gV vs zs) H Q E1) : wpAny (model X.prog X.w) X.A (call (.ref f) us (ks.zip ws)) (EP X pins σ Q) X.xe s := by
  have r2 := hb.rel r rz
  refine wpAny_call (codeAny_mono (F.run X.A X.stack s H ⟨us, ks.zip ws⟩ (g us ws) (gV vs zs) Q E1 hr I.env0 (hb.to s us ws I.kIn (r.length.symm.trans l1) (rz.length.symm.trans l2)) r2 h) fun r s' hq => ?_)
  cases r with
  | error e => exact hx pins H s e s' I hq
  | ok fl =>
    cases fl with
    | ret u => exact I.after hq
    | next => exact False.elim hq
    | brk => exact False.elim hq
    | cont => exact False.elim hq
theorem pe_callNS (F : FnOk X.prog X.w X.K X.mg X.base CX k f fd ps sp) (hr : Room k X.A) (hg : Gl X x) (hm : X.mg x = some (.ref f)) (hk : PySem.W.keepIn X.K (.ref f) = true) (hb : KBn X.K fd ps n ks g gV) (hx : ∀ σ, PassesAt CX X σ (E σ))
    (ha : PA X (e :: es) t) (hkw : PK X kws tk) (hall : (backToKw pos (keywordEach kws X.env)).all (·.1.isSome) = true := by rfl) (hks : (backToKw pos (keywordEach kws X.env)).filterMap (·.1) = ks := by rfl)
    (hdb : (x == ("__debug__" : Str)) = false := by decide) (he : starEach (e :: es) X.env = (false, eval e X.env) :: starEach es X.env := by rfl)
    (hpl : ((backTo pos (starEach (e :: es) X.env)).any (·.1) || (backToKw pos (keywordEach kws X.env)).any (·.1.isNone)) = false := by rfl) :
    PE X (.Call (.Name x p) (e :: es) kws pos) (tCallNS n ks.length sp gV E t tk) := by
  refine ⟨fun pins s σ H Q I h => ?_⟩
  refine wpAny_Call_Name_kw (ld_glob I hg hm ?_ hdb)
  refine PySem.W.callWith_KW (h₀ := X.base) I.ok.mod.kin hk hall (thn (ha.run pos pins s σ H _ I h) fun us s1 ⟨vs, H1, I1, r, q⟩ => ?_) hpl he
  refine thn (hkw.run pos pins s1 σ H1 _ I1 q) fun ws s2 ⟨zs, H2, I2, rz, l1, l2, q2⟩ => ⟨I2.kIn, ?_⟩
  rw [hks]
  exact run_fnNS F hr hb (hx σ) I2 r rz l1 l2 q2
/-- a def that is never called so far -/
theorem fn_none {P : Program} {w : World} {K : PySem.W.Frag} {mg : Str → Option Value} {base : Heap} {CX : CXT} {k : Nat} {f : Addr} {fd : FuncData} {ps : List Str} : FnOk P w K mg base CX k f fd ps (fun _ _ _ _ => False) := ⟨fun _ _ _ _ h => h.elim, fun _ _ _ _ _ _ _ _ _ _ _ _ _ h => h.elim⟩
end
end TS
namespace TS
open PySem PySem.Spec PyProof.Rows PySem.W PySem.Calls L2
/-! isinstance(e, c), e the own error that is handled, with its dict -/
def rIsXd (K : Frag) (cls : Value) (d : Option Addr) (a : Addr) : List V → Hp → VK → Prop := fun xs H Q => ∃ (C dd : Addr) (fs : List (Str × V)) (c : V) (cv : Value) (b : Bool), xs = [.ref a, c] ∧ cls = .ref C ∧ d = some dd ∧ H dd = some (.xd fs) ∧
  IsX K C ∧ ClsV c cv ∧ kitOne K (.ref C) cv = some b ∧ Q (.bl b) H
theorem call_isXd {X : Cx} {a : Addr} {oe : Obj} {cls : Value} {d : Option Addr} {pn : List (Addr × Obj)} (hz : Zc cls d oe) (hf : ∃ vs, oe.data = .fields vs) : CallR (X.suite a ((a, oe) :: pn)) (.builtin "isinstance") (rIsXd X.K cls d a) := by
  intro pins s σ H xs us Q I r h
  obtain ⟨C, dd, fs, c, cv, b, rfl, rfl, rfl, ed, T, kc, ek, q⟩ := h
  obtain ⟨u1, u2, rfl, r1, r2⟩ := vals2 r
  have e2 := kc.eq r2
  subst e2
  obtain rfl : u1 = Value.ref a := r1
  have hp := (I.pin (a, oe) (by simp)).1
  have z := I.hok dd _ ed
  simp only [L2.ObjOk] at z
  obtain ⟨mA, hns, rel⟩ := z
  obtain ⟨od, hod, hl⟩ := lookIn_ns hns
  obtain ⟨vs, hvs⟩ := hf
  obtain ⟨z1, z2⟩ := hz
  have no : notCls oe = true := by
    unfold notCls
    rw [hvs]
  have J : InstAt s.heap a oe C (some od) := ⟨hp, z1, no, by rw [z2]; exact hod⟩
  exact kia_one (kitx_exc T.hcl T.x.ga T.x.gg T.x.exC T.ha T.hn T.htk T.hm) I.kIn J ek (fun z => nomatch z) fun tk => ⟨.bl b, H, I.tok tk, rfl, q⟩
end TS
namespace TS
open PySem L2
/-! statements by what holds ahead and behind, for a ghost i -/
section
variable {ι : Type} {X : Cx} {st : Stmt} {sts : List Stmt} {φ ψ χ : ι → St → Hp → Prop}
def Stm (X : Cx) (st : Stmt) (φ ψ : ι → St → Hp → Prop) : Prop := ∃ t, PS X st t ∧ ∀ i D σ H, φ i σ H → (∀ σ' H', ψ i σ' H' → D.nx σ' H') → t D σ H
def Stms (X : Cx) (sts : List Stmt) (φ ψ : ι → St → Hp → Prop) : Prop := ∃ t, PSs X sts t ∧ ∀ i D σ H, φ i σ H → (∀ σ' H', ψ i σ' H' → D.nx σ' H') → t D σ H
theorem Stms.nil : Stms X [] φ φ := ⟨_, pss_nil, fun i D σ H h k => k σ H h⟩
theorem Stms.cons (h1 : Stm X st φ ψ) (h2 : Stms X sts ψ χ) : Stms X (st :: sts) φ χ := by
  obtain ⟨t, a, b⟩ := h1
  obtain ⟨u, c, d⟩ := h2
  exact ⟨_, pss_cons a c, fun i D σ H h k => b i _ σ H h fun σ' H' g => d i D σ' H' g k⟩
theorem Stms.one (h1 : Stm X st φ ψ) : Stms X [st] φ ψ := by
  obtain ⟨t, a, b⟩ := h1
  exact ⟨_, pss_one a, fun i D σ H h k => b i D σ H h k⟩
theorem Stm.imp {φ' ψ' : ι → St → Hp → Prop} (h : Stm X st φ ψ) (p : ∀ i σ H, φ' i σ H → φ i σ H) (q : ∀ i σ H, ψ i σ H → ψ' i σ H) : Stm X st φ' ψ' := by
  obtain ⟨t, a, b⟩ := h
  exact ⟨t, a, fun i D σ H h k => b i D σ H (p _ _ _ h) fun σ' H' g => k _ _ (q _ _ _ g)⟩
end
/-- the body of a for -/
def forBody : Stmt → List Stmt
  | .For _ _ b _ _ => b
  | _ => []
abbrev noStmt : Stmt := .Pass ⟨0, 0, 0, 0⟩
/-- for i, x in enumerate(list) -/
theorem for_enum {K : PySem.W.Frag} {a : Addr} {xs : List V} {g : TG} {tb : TS} {D : Ends} {σ : St} {H : Hp} (Pv : Nat → St → Hp → Prop) (h0 : Pv 0 σ H) (hl : ∀ i σ H, i ≤ xs.length → Pv i σ H → SqL K H a xs)
    (hs : ∀ i x T σ H, xs[i]? = some x → Pv i σ H → H T = none → g (.ref T) σ (upd H T (.tup [.int (i : Nat), x])) fun σ2 H2 => tb { D with nx := Pv (i + 1), ct := Pv (i + 1), bk := D.nx } σ2 H2) (hd : ∀ σ H, Pv xs.length σ H → D.nx σ H) :
    ∃ W : Nat → Nat → St → Hp → Prop, (∃ m, W 0 m σ H) ∧ ∀ i m σ H, W i m σ H →
      ((Ite K a).stop i H ∧ D.nx σ H) ∨ ((Ite K a).go i H ∧ ∃ N : St → Hp → Prop, (∀ σ' H', N σ' H' → ∃ m', m' < m ∧ W (i + 1) m' σ' H') ∧ ∀ x H', (Ite K a).yld i H x H' → g x σ H' fun σ2 H2 => tb { D with nx := N, ct := N, bk := D.nx } σ2 H2) := by
  refine ⟨fun i m σ H => m = xs.length - i ∧ i ≤ xs.length ∧ Pv i σ H, ⟨xs.length, by simp, Nat.zero_le _, h0⟩, ?_⟩
  rintro i m σ H ⟨rfl, hi, p⟩
  have q := hl i σ H hi p
  by_cases hlt : i < xs.length
  · refine .inr ⟨⟨xs, xs[i], q, by simp [hlt]⟩, Pv (i + 1), fun σ' H' p' => ⟨xs.length - (i + 1), by omega, rfl, hlt, p'⟩, fun x H' y => ?_⟩
    obtain ⟨T, z, rfl, nT, rfl, y⟩ := y
    exact hs i z T σ _ (y xs q) p nT
  · have e : i = xs.length := by omega
    subst e
    exact .inl ⟨⟨xs, q, Nat.le_refl _⟩, hd σ H p⟩
end TS
/-! places refused by delayed and by helps -/
namespace TS
open PySem L2
abbrev sChkM : Stmt := top 26
abbrev sHelps : Stmt := top 85
abbrev sRefH : Stmt := top 117
section
variable {P : Program} {w : World} {K : PySem.W.Frag} {mg : Str → Option Value} {base : Heap}
theorem scChkM : FnScope ["most"] ["most"] (defScope sChkM) := ⟨rfl, rfl, rfl, by decide +kernel, rfl, by decide +kernel, by decide +kernel⟩
def spChkM : Sp := fun vs H Q _ => ∃ i : Int, vs = [.int i] ∧ 1 ≤ i ∧ Q .non H
theorem ok_chkM {f : Addr} {fd : FuncData} (F : Fun K "check_most" "check_most" sChkM f fd) (D1 : Has P w K mg base "is_number" 1 ["value"] (spNum K)) : FnOk P w K mg base CX0 2 f fd ["most"] spChkM := by
  obtain ⟨f1, fd1, m1, k1, b1, G1⟩ := D1
  refine F.ok scChkM (fun vs H Q E h => ?_) (fun cdv A outer s H vs Q E hr h => ?_)
  · obtain ⟨i, rfl, _⟩ := h
    rfl
  obtain ⟨i, rfl, h1, k⟩ := h
  refine ⟨_, pss_one (ps_if (PW.pt (pw_or (pt_not (pt_val (pe_call G1 hr rfl m1 k1 b1 .nil pass0 (pa_cons (pv 0) pa_nil)))) (pw_or1 (pt_cmpR op_lt (pv 0) pe_int (nomark _))))) (pss_one ps_never) pss_nil), ?_⟩
  refine ⟨_, rfl, .int i, _, true, false, rfl, .base (.int i), kit_ty (by decide +kernel), kit_ty (by decide +kernel), _, rfl, iteF ?_⟩
  refine ⟨_, rfl, _, _, rfl, rfl, _, rfl, ?_⟩
  rw [decide_eq_false (by omega)]
  exact iteF k
/-- a def called by the keyword most -/
def HasKw (P : Program) (w : World) (K : PySem.W.Frag) (mg : Str → Option Value) (base : Heap) (CX : CXT) (name : Str) (k n : Nat) (ps : List Str) (gV : List V → List V → List V) (sp : Sp) : Prop := ∃ (f : Addr) (fd : FuncData) (g : List Value → List Value → List Value), mg name = some (.ref f) ∧ PySem.W.keepIn K (.ref f) = true ∧ KBn K fd ps n ["most"] g gV ∧ FnOk P w K mg base CX k f fd ps sp
theorem scHelps : FnScope ["program", "places", "most"] ["program", "places", "most"] (defScope sHelps) := ⟨rfl, rfl, rfl, by decide +kernel, rfl, by decide +kernel, by decide +kernel⟩
def spHelpsR (K : PySem.W.Frag) (PR PC CD C NP : Addr) : Sp := fun vs H Q E => ∃ (a : Addr) (v x : V) (ps : List ProcD) (ins : List Str) (Ds : List Addr), vs = [.ref a, v, .int 1] ∧ Lists Ds H ∧ GOff PR PC CD C Ds H a ps ins ∧ ProgOk ps ins ∧ RefD K H (placesE ps) v x ∧ ∀ H' dd, Same H H' → H' dd = none → E (.ref NP) (some dd) (upd H' dd (.xd [("value", x)]))
theorem ok_helpsR {PR PC CD C NP fw f : Addr} {fdw fd : FuncData} {params : Arguments} {kws : List (Str × V)} {gV : List V → List V → List V} (F : FunD K "helps" "helps" params (defBody sHelps) (defScope sHelps) [] kws f fd) (GK : ProgK K mg PR) (hm : Meth K PR "delayed" fw) (bw : Binds K fdw ["self", "places"] []) (GW : FnOk P w K mg base (L2.CX P w) 23 fw fdw ["self", "places"] (spGDelay K PR PC CD C NP))
    (DC : Has P w K mg base "check_most" 2 ["most"] spChkM) (DS : HasKw P w K mg base CX0 "is_sole" 0 1 ["program", "most"] gV (fun _ _ _ _ => False)) : FnOk P w K mg base (L2.CX P w) 24 f fd ["program", "places", "most"] (spHelpsR K PR PC CD C NP) := by
  obtain ⟨f1, fd1, m1, k1, b1, G1⟩ := DC
  obtain ⟨f2, fd2, g2, m2, k2, b2, G2⟩ := DS
  refine F.ok scHelps (fun vs H Q E h => ?_) (fun cdv A outer s H vs Q E hr h => ?_)
  · obtain ⟨a, v, x, ps, ins, Ds, rfl, _⟩ := h
    rfl
  obtain ⟨a, v, x, ps, ins, Ds, rfl, hDs, hg, ok, hR, bad⟩ := h
  have r2 : Room 2 _ := hr.mono (by decide)
  have r0 : Room 0 _ := hr.mono (by decide)
  refine ⟨_, pss_cons (ps_expr (pe_call G1 r2 rfl m1 k1 b1 .nil pass0 (pa_cons (pv 2) pa_nil)))
    (pss_one (ps_ret (pe_callN G2 r0 rfl m2 k2 b2 pass0 (pa_cons (pe_methE (E := WE (fun cls d _ H => E cls d H)) (pv 0) GK.cl hm GW hr bw (fun σ => passAt (takes_of rfl rfl rfl rfl) σ) (pa_cons (pv 1) pa_nil)) pa_nil) (pk_cons (pv 2) pk_nil)))), ?_⟩
  refine ⟨_, rfl, 1, rfl, by decide, ?_⟩
  obtain ⟨as, ⟨dx, lp, ln, lb, li, lv, lc, lq, vs, cs, ys, h1, _⟩, _⟩ := hg.now
  refine ⟨_, rfl, a, dx, _, rfl, h1, gfs_no (by decide +kernel), _, rfl, ?_⟩
  refine ⟨a, v, ps, ins, Ds, rfl, hDs, hg, ok, ?_⟩
  rcases hR with ⟨q', xs, st, k, rfl, hx, hst, hk, e, pre⟩ | ⟨rfl, ty, hty, hk⟩
  · refine .inl ⟨q', xs, st, rfl, hx, hst, fun all => ?_, fun k' x' hk' e' pre' H' dd s1 hd => ?_⟩
    · have := all k (List.getElem?_eq_some_iff.mp hk).1
      rw [e] at this
      cases this
    · have ek : k' = k := by
        rcases Nat.lt_trichotomy k' k with c | c | c
        · rw [pre k' c] at e'
          cases e'
        · exact c
        · rw [pre' k c] at e
          cases e
      subst ek
      rw [hk] at hk'
      cases hk'
      exact bad H' dd s1 hd
  · refine .inr ⟨ty, hty, hk, fun H' dd s1 hd => ?_⟩
    exact bad H' dd s1 hd
theorem scRefH : FnScope ["program", "places", "way", "e"] ["program", "places", "way"] (defScope sRefH) := ⟨rfl, rfl, rfl, by decide +kernel, rfl, by decide +kernel, by decide +kernel⟩
def spRefH (K : PySem.W.Frag) (PR PC CD C : Addr) : Sp := fun vs H Q _ => ∃ (a : Addr) (v x : V) (way : Int) (r : Str) (ps : List ProcD) (ins : List Str) (Ds : List Addr), vs = [.ref a, v, .int way] ∧ Lists Ds H ∧ GOff PR PC CD C Ds H a ps ins ∧ ProgOk ps ins ∧ RefD K H (placesE ps) v x ∧ Rep K H x r ∧
  ∀ H' l, Same H H' → H l = none → H' l = some (.lst [.str r, .bl true]) → Q (.ref l) H'
theorem ok_refH {PR PC CD C NP TE fw f : Addr} {fdw fd : FuncData} (F : Fun K "_law_refused" "_law_refused" sRefH f fd) (T : BltT mg) (mr : mg "repr" = none) (GK : ProgK K mg PR) (EN : ErrC P w K mg base "NoPlace" "value" NP) (IN : IsX K NP) (ex : PySem.W.exmOne K (.ref NP) (.ref NP) = some true) (mT : mg "TiedError" = some (.ref TE)) (kTE : PySem.W.kitOne K (.ref NP) (.ref TE) = some true)
    (hm : Meth K PR "delayed" fw) (bw : Binds K fdw ["self", "places"] []) (GW : FnOk P w K mg base (L2.CX P w) 23 fw fdw ["self", "places"] (spGDelay K PR PC CD C NP)) (DH : HasKw P w K mg base (L2.CX P w) "helps" 24 2 ["program", "places", "most"] (fun vs zs => vs ++ zs) (spHelpsR K PR PC CD C NP)) : FnG P w K mg base 25 f fd ["program", "places", "way"] (spRefH K PR PC CD C) := by
  obtain ⟨f2, fd2, g2, m2, k2, b2, G2⟩ := DH
  refine okG F scRefH (fun vs H Q E h => ?_) (fun cdv A outer s H vs Q E hG hr h => ?_)
  · obtain ⟨a, v, x, way, r, ps, ins, Ds, rfl, _⟩ := h
    rfl
  obtain ⟨a, v, x, way, r, ps, ins, Ds, rfl, hDs, hg, ok, hR, hr', q⟩ := h
  have un := hr.un
  have r23 : Room 23 _ := hr.mono (by decide)
  have cR : ∀ a pn, CallR ((cxOf CX0 P w K mg base ["program", "places", "way", "e"] "_law_refused" (defScope sRefH) f cdv A outer s H E).nox.suite a pn) (.builtin "repr") (rRepX K) := fun a pn => call_reprX (X := ((cxOf CX0 P w K mg base ["program", "places", "way", "e"] "_law_refused" (defScope sRefH) f cdv A outer s H E).nox.suite a pn)) hG (Nat.lt_of_le_of_lt (Nat.add_le_add_left (by decide) _) un)
  have cI : ∀ (a : Addr) (oe : Obj) (cls : Value) (d : Option Addr) (pn : List (Addr × Obj)), Zc cls d oe → (∃ vs, oe.data = .fields vs) → CallR ((cxOf CX0 P w K mg base ["program", "places", "way", "e"] "_law_refused" (defScope sRefH) f cdv A outer s H E).nox.suite a ((a, oe) :: pn)) (.builtin "isinstance") (rIsXd K cls d a) := fun _ _ _ _ _ hz hf => call_isXd hz hf
  refine ⟨_, pss_cons (ps_try_as (i := 3) (Wout := fun _ _ _ _ => False) rfl rfl scRefH.nd rfl rfl ⟨rfl, by decide +kernel, .inl EN.mgC⟩ takes0
      (fun W pn xe tk _ => pss_one (ps_if (pt_cmpR op_eq (pv 2) pe_int (nomark _)) (pss_one (ps_expr (pe_methE (E := WE W) (pv 0) GK.cl hm GW r23 bw (fun σ => passAt tk σ) (pa_cons (pv 1) pa_nil)))) (pss_one (ps_expr (pe_callNS (E := WE W) G2 hr rfl m2 k2 b2 (fun σ => passAt tk σ) (pa_cons (pv 0) (pa_cons (pv 1) pa_nil)) (pk_cons pe_int pk_nil))))))
      (fun a oe cls d pn hz hf => pss_one (ps_ret (pe_lst (pa_cons (pe_callB (cR a ((a, oe) :: pn)) (by rfl) mr (by decide +kernel) (pa_cons (pe_xf EN.xf EN.no hz hf (pv 3)) pa_nil)) (pa_cons (pe_callB (cI a oe cls d pn hz hf) (by rfl) T.isi bIsi (pa_cons (pv 3) (pa_cons (pe_glob rfl mT (show RelV (.ref TE) (.ref TE) from rfl)) pa_nil))) pa_nil))))))
    (pss_one (ps_ret pe_non)), ?_⟩
  obtain ⟨as, ⟨dx, lp, ln, lb, li, lv, lc, lq, vs, cs, ys, h1, _⟩, _⟩ := hg.now
  refine ⟨_, rfl, rfl, _, rfl, ite2 (fun c => ?_) (fun c => ?_)⟩
  · refine ⟨_, rfl, a, dx, _, rfl, h1, gfs_no (by decide +kernel), _, rfl, ?_⟩
    refine ⟨a, v, ps, ins, Ds, rfl, hDs, hg, ok, ?_⟩
    rcases hR with ⟨q', xs, st, k, rfl, hx, hst, hk, e, pre⟩ | ⟨rfl, ty, hty, hk⟩
    · refine .inl ⟨q', xs, st, rfl, hx, hst, fun all => ?_, fun k' x' hk' e' pre' H' dd s1 hd => ?_⟩
      · have := all k (List.getElem?_eq_some_iff.mp hk).1
        rw [e] at this
        cases this
      · have ek : k' = k := by
          rcases Nat.lt_trichotomy k' k with c | c | c
          · rw [pre k' c] at e'
            cases e'
          · exact c
          · rw [pre' k c] at e
            cases e
        subst ek
        rw [hk] at hk'
        cases hk'
        exact ⟨true, ex, fun _ a ha => ⟨_, rfl, rfl, rfl, dd, _, _, rfl, upd_same, rfl, _, r, rfl, (hr'.same s1).same (same_upd hd _), _, rfl, NP, dd, _, _, _, true, rfl, rfl, rfl, upd_same, IN, .own TE, kTE, by show 2 ≤ sizeLine; decide, fun l hl => q _ l ((s1.trans (same_upd hd _)).trans (same_upd hl _)) ((s1.trans (same_upd hd _)).free hl) upd_same⟩, fun z => nomatch z⟩
    · refine .inr ⟨ty, hty, hk, fun H' dd s1 hd => ?_⟩
      exact ⟨true, ex, fun _ a ha => ⟨_, rfl, rfl, rfl, dd, _, _, rfl, upd_same, rfl, _, r, rfl, (hr'.same s1).same (same_upd hd _), _, rfl, NP, dd, _, _, _, true, rfl, rfl, rfl, upd_same, IN, .own TE, kTE, by show 2 ≤ sizeLine; decide, fun l hl => q _ l ((s1.trans (same_upd hd _)).trans (same_upd hl _)) ((s1.trans (same_upd hd _)).free hl) upd_same⟩, fun z => nomatch z⟩
  · refine ⟨_, rfl, _, rfl, rfl, rfl, a, v, x, ps, ins, Ds, rfl, hDs, hg, ok, hR, fun H' dd s1 hd => ⟨true, ex, fun _ a ha => ?_, fun z => nomatch z⟩⟩
    have s2 : Same H' (upd H' dd (.xd [("value", x)])) := same_upd hd _
    have e1 : (upd H' dd (.xd [("value", x)])) dd = some (.xd [("value", x)]) := upd_same
    generalize upd H' dd (.xd [("value", x)]) = H2 at s2 e1
    have s12 := s1.trans s2
    refine ⟨_, rfl, rfl, rfl, dd, _, x, rfl, e1, rfl, x, r, rfl, hr'.same s12, _, rfl, NP, dd, _, _, _, true, rfl, rfl, rfl, e1, IN, .own TE, kTE, by show 2 ≤ sizeLine; decide, fun L hL => ?_⟩
    exact q _ L (s12.trans (same_upd hL _)) (s12.free hL) upd_same
end
end TS
namespace TS
open PySem L2
abbrev sLaw : Stmt := top 118
abbrev bLaw : List Stmt := defBody sLaw
abbrev nmLaw : List Str := ["script", "plain", "program", "places", "name", "whole", "title", "waits", "deeds", "odd", "value", "way", "some", "at", "place"]
theorem scLaw : FnScope nmLaw ["script"] (defScope sLaw) := ⟨rfl, rfl, rfl, by decide +kernel, rfl, by decide +kernel, by decide +kernel⟩
theorem lists_none {H : Hp} : Lists [] H := fun D m => by cases m
theorem off_none {H H' : Hp} (s : SameOff [] H H') : Same H H' := fun b o e => s b o e (by simp)
theorem PlainV.none {p : Addr} {H : Hp} {v : V} {es : List ProcD} {ins : List Str} (h : PlainV [p] H v es ins) : PlainV [] H v es ins := by
  obtain ⟨q, lp, li, ys, rfl, h1, h2, h3, h4, h5, h6⟩ := h
  exact ⟨q, lp, li, ys, rfl, h1, h2, h3.imp fun v e h => h.sub (fun x hx => by cases hx), h4, by simp, by simp⟩
/-! places as data -/
def plsD (pls : List (Str × Nat)) : PyData := .list (pls.map plD)
theorem plsD_sh {pls : List (Str × Nat)} (h : ∀ x ∈ pls, Plain x.1) : SeqAt.shaped (plsD pls) = true := shaped_mk (by unfold plsD; rw [PyData.canLay0]; exact plD_lay h) (by unfold plsD; have := plD_dep pls; simp only [PyData.depth]; omega)
/-- data that repr tells -/
def goodD (d : PyData) : Bool := d.showable && !d.hasDict && decide (d.depth ≤ 20) && decide (d.shown.length ≤ 200) && d.shown.cps.toList.all fun c => decide (c < 128)
def oddD (nm : Str) : List PyData := [.tuple [.str nm], .list [.str nm, .int 0], .tuple [.str nm, .int 0, .int 0], .tuple [.str nm, .int (-1)], .tuple [.str nm, .int 9], .tuple [.str nm, .none], .tuple [.str nm, .bool true], .tuple [.str "nobody", .int 0], .tuple [.none, .int 0], .tuple [.int 0, .str nm], .tuple [.tuple [.str nm], .int 0], .tuple [.str nm, .int 0], .tuple [.str nm, .int 1], .tuple [.str nm, .int 2], .tuple [.str nm, .int 3]]
theorem odd_good : ∀ nm ∈ ups ++ downs, (oddD nm).all goodD = true := by decide +kernel
theorem ttl_text : ∀ nm ∈ ups ++ downs, (reprText nm).length ≤ 200 ∧ (reprText nm).cps.toList.all (fun c => decide (c < 128)) = true := by decide +kernel
theorem ttl_z : ("nobody" : Str) ∉ ups ++ downs := by decide +kernel
theorem plain_all {x : Str} (h : x.cps.toList.all (fun c => decide (c < 128)) = true) : Plain x := fun c hc => of_decide_eq_true (List.all_eq_true.mp h c hc)
theorem plIn_no {pls : List (Str × Nat)} {n : Str} {i : Int} (h : ∀ x ∈ pls, x.1 = n → (x.2 : Int) ≠ i) : plIn pls n i = false := by
  unfold plIn
  rw [List.any_eq_false]
  intro x hx e
  rw [Bool.and_eq_true, decide_eq_true_iff, decide_eq_true_iff] at e
  exact h x hx e.1 e.2
/-- what is no place, and told by repr -/
def Odd1 (K : PySem.W.Frag) (H : Hp) (pls : List (Str × Nat)) (x : V) : Prop := PlCase K H pls x false ∧ ∃ r, Rep K H x r ∧ Plain r
theorem Odd1.same {K : PySem.W.Frag} {H H' : Hp} {pls : List (Str × Nat)} {x : V} (h : Odd1 K H pls x) (s : Same H H') : Odd1 K H' pls x := by
  obtain ⟨a, r, b, c⟩ := h
  exact ⟨a.same s, r, b.same s, c⟩
def OddAt (K : PySem.W.Frag) (H : Hp) (pls : List (Str × Nat)) (xs : List V) : Prop := ∀ x ∈ xs, Odd1 K H pls x
theorem OddAt.same {K : PySem.W.Frag} {H H' : Hp} {pls : List (Str × Nat)} {xs : List V} (h : OddAt K H pls xs) (s : Same H H') : OddAt K H' pls xs := fun x hx => (h x hx).same s
theorem OddAt.app {K : PySem.W.Frag} {H : Hp} {pls : List (Str × Nat)} {xs ys : List V} (h : OddAt K H pls xs) (g : OddAt K H pls ys) : OddAt K H pls (xs ++ ys) := fun x hx => by
  rcases List.mem_append.mp hx with hx | hx
  · exact h x hx
  · exact g x hx
theorem RefD.same {K : PySem.W.Frag} {H H' : Hp} {pls : List (Str × Nat)} {v x : V} (h : RefD K H pls v x) (s : Same H H') : RefD K H' pls v x := by
  rcases h with ⟨q, xs, st, k, rfl, h1, h2, h3, h4, h5⟩ | ⟨rfl, ty, h1, h2⟩
  · exact .inl ⟨q, xs, st, k, rfl, h1.same s, fun i y hy => (h2 i y hy).same s, h3, h4, h5⟩
  · exact .inr ⟨rfl, ty, TyX.sameX0 h1 s, h2⟩
def twoR (r : Str) : PyData := .list [.str r, .bool true]
theorem twoR_sh {r : Str} (h : Plain r) : SeqAt.shaped (twoR r) = true := shaped_mk (by simp [twoR, PyData.canLay0, PyData.canLayAll0, h.ok]) (by simp [twoR, PyData.depth, PyData.depthAll])
theorem twoR_self {r : Str} : PyData.eqv (twoR r) (twoR r) = true := by simp [twoR, PyData.eqv, PyData.eqvAll]
section
variable {P : Program} {w : World} {K : PySem.W.Frag} {mg : Str → Option Value} {base : Heap}
def rTupL : List V → Hp → VK → Prop := fun xs H Q => ∃ q ys, xs = [.ref q] ∧ H q = some (.lst ys) ∧ ∀ l, H l = none → Q (.ref l) (upd H l (.tup ys))
theorem cr_tupL {X : Cx} : CallR X (.type "tuple") rTupL := by
  intro pins s σ H xs us Q I r h
  refine call_tuple_of pins s σ H xs us Q I r ?_
  obtain ⟨q, ys, rfl, hq, k⟩ := h
  exact ⟨q, ys, rfl, .inl ⟨SqL.of hq, k⟩⟩
theorem pls_eq {l r : Addr} {H : Hp} {xs ys : List V} {pls : List (Str × Nat)} {Q : VK} (hl : H l = some (.lst xs)) (hr : H r = some (.lst ys)) (ex : Each PlV H xs pls) (ey : Each PlV H ys pls) (pl : ∀ x ∈ pls, Plain x.1) (q : Q (.bl true) H) : rEqD K (.ref l) (.ref r) H Q := by
  refine ⟨plsD pls, plsD pls, .lst (SqL.of hl) (plD_dp ex), .lst (SqL.of hr) (plD_dp ey), plsD_sh pl, plsD_sh pl, ?_⟩
  rw [SeqAt.eqv_refl _ (SeqAt.canLay_of_shaped (plsD_sh pl))]
  exact q
/-- a Program beside its like -/
theorem prog_eq {PR PC CD C a b : Addr} {H : Hp} {ps : List ProcD} {ins : List Str} {Q : VK} {E : XK} (GT : ProgT K mg PR) (ha : ProgAt PR PC CD C H a ps ins) (hb : ProgAt PR PC CD C H b ps ins) (pi : ∀ x ∈ ins, Plain x) (q : Q (.bl true) H) :
    rOwn2 K PR (spEqB (RProg PR PC CD C)) E id (.ref a) (.ref b) H Q := by
  obtain ⟨as, ⟨dx, lp, ln, lb, li, lv, lc, lq, vs, cs, ys, h1, _⟩, _⟩ := id ha
  obtain ⟨as', ⟨dx', lp', ln', lb', li', lv', lc', lq', vs', cs', ys', h1', _⟩, _⟩ := id hb
  refine ⟨a, dx, _, .ref PR, rfl, h1, GT.ty h1', self_first, a, b, _, rfl, ⟨ps, ins, ps, ins, ha, hb, pi, pi, rfl⟩, _, rfl, ?_⟩
  rw [decide_eq_true rfl]
  exact q
theorem pl_true {H : Hp} {xs : List V} {ps : List ProcD} {pls : List (Str × Nat)} (hE : Each PlV H xs pls) (hm : ∀ x ∈ pls, x ∈ placesE ps) (hp : ∀ x ∈ pls, Plain x.1) (i : Nat) (x : V) (hxi : xs[i]? = some x) : PlCase K H (placesE ps) x true := by
  have hpi : pls[i]? = some (pls[i]'(by rw [← hE.1]; exact (List.getElem?_eq_some_iff.mp hxi).1)) := List.getElem?_eq_getElem _
  obtain ⟨t, rfl, ht⟩ := hE.2 i x _ hxi hpi
  have hmem := List.mem_of_getElem? hpi
  generalize pls[i]'(by rw [← hE.1]; exact (List.getElem?_eq_some_iff.mp hxi).1) = y at hpi ht hmem
  have := PlCase.pair (K := K) (pls := placesE ps) ht (hp y hmem)
  rw [plIn_nat, decide_eq_true (show (y.1, y.2) ∈ placesE ps from hm y hmem)] at this
  exact this
/-- places, and behind them what is none -/
theorem refD_at {H : Hp} {q : Addr} {ys rest : List V} {x : V} {ps : List ProcD} (hq : RowAt H q (ys ++ x :: rest)) (ht : ∀ (i : Nat) y, ys[i]? = some y → PlCase K H (placesE ps) y true) (hx : PlCase K H (placesE ps) x false) (hr : ∀ y ∈ rest, PlCase K H (placesE ps) y false) : RefD K H (placesE ps) (.ref q) x := by
  refine .inl ⟨q, _, fun i => decide (i < ys.length), ys.length, rfl, hq, fun i y hy => ?_, ?_, decide_eq_false (by omega), fun j hj => decide_eq_true hj⟩
  · show PlCase K H (placesE ps) y (decide (i < ys.length))
    by_cases c1 : i < ys.length
    · rw [decide_eq_true c1]
      rw [List.getElem?_append_left c1] at hy
      exact ht i y hy
    · rw [decide_eq_false c1]
      rw [List.getElem?_append_right (by omega)] at hy
      rcases List.mem_cons.mp (List.mem_of_getElem? hy) with rfl | hm
      · exact hx
      · exact hr y hm
  · rw [List.getElem?_append_right (Nat.le_refl _), Nat.sub_self]
    rfl
theorem rep_good {H : Hp} {t : Addr} {d : PyData} {nm : Str} (hm : nm ∈ ups ++ downs) (hd : Dp K H (.ref t) d) (m : d ∈ oddD nm) : ∃ r, Rep K H (.ref t) r ∧ Plain r := by
  have h := List.all_eq_true.mp (odd_good nm hm) d m
  unfold goodD at h
  simp only [Bool.and_eq_true, decide_eq_true_eq, Bool.not_eq_true'] at h
  obtain ⟨⟨⟨⟨h1, h2⟩, h3⟩, h4⟩, h5⟩ := h
  exact ⟨_, .dat hd h1 h2 h3 (Nat.le_trans h4 (by decide)), plain_all h5⟩
/-- what stands once the program is made -/
structure G79 where
  p : Addr
  B : Hp
  vp : Addr
  ap : Addr
  lp : Addr
  es : List ProcD
  ins : List Str
  ys : List V
structure G79.Ok (PR PC CD C : Addr) (g : G79) : Prop where
  pv : PlainV [] g.B (.ref g.vp) g.es g.ins
  ga : GOff PR PC CD C [] g.B g.ap g.es g.ins
  hl : g.B g.lp = Option.some (.lst g.ys)
  eY : Each PlV g.B g.ys (placesE g.es)
  pok : ProgOk g.es g.ins
  eok : ∀ e ∈ g.es, e.Ok
  ttl : ∀ e ∈ g.es, e.name ∈ ups ++ downs
theorem G79.Ok.pl {PR PC CD C : Addr} {g : G79} (ok : g.Ok PR PC CD C) : ∀ x ∈ placesE g.es, Plain x.1 := fun x hx => by
  obtain ⟨p, hp, e, _⟩ := placesE_mem hx
  rw [e]
  exact plain_word (ok.eok p hp).name
theorem G79.Ok.pi {PR PC CD C : Addr} {g : G79} (ok : g.Ok PR PC CD C) : ∀ x ∈ g.ins, Plain x := fun x hx => plain_word (ok.pok.iok x hx)
theorem G79.Ok.few {PR PC CD C : Addr} {g : G79} (ok : g.Ok PR PC CD C) : g.ys.length ≤ 8 := by
  have := ok.pok.once
  have := ok.eY.1
  omega
theorem G79.Ok.lt4 {PR PC CD C : Addr} {g : G79} (ok : g.Ok PR PC CD C) : ∀ x ∈ placesE g.es, x.2 < 4 ∧ x.1 ∈ ups ++ downs := fun x hx => by
  obtain ⟨p, hp, e, l⟩ := placesE_mem hx
  have := (ok.eok p hp).d4
  exact ⟨by omega, by rw [e]; exact ok.ttl p hp⟩
abbrev lawX (P : Program) (w : World) (K : PySem.W.Frag) (mg : Str → Option Value) (base : Heap) (f : Addr) (cdv : Value) (A : Around) (outer : List Env) (s : Shared) (H0 : Hp) (E : XK) : Cx := (cxOf CX0 P w K mg base nmLaw "law" (defScope sLaw) f cdv A outer s H0 E).nox
variable {f a PR PC CD C NP : Addr} {cdv : Value} {A : Around} {outer : List Env} {s : Shared} {H0 : Hp} {E : XK}
/-- a pair of a title and a number -/
def WhU (H : Hp) (u : V) : Prop := ∃ (t : Addr) (nm : Str) (i : Nat), u = .ref t ∧ H t = Option.some (.tup [.str nm, .int i]) ∧ nm ∈ ups ++ downs ∧ i < 4
theorem WhU.off {Ds : List Addr} {H H' : Hp} {u : V} (h : WhU H u) (s : SameOff Ds H H') (hl : Lists Ds H) : WhU H' u := by
  obtain ⟨t, nm, i, e, ht, r⟩ := h
  exact ⟨t, nm, i, e, s _ _ ht (no_list hl ht (fun _ z => by cases z)), r⟩
theorem WhU.same {H H' : Hp} {u : V} (h : WhU H u) (s : Same H H') : WhU H' u := h.off (Same.off (Ds := []) s) lists_none
def F2 (PR PC CD C : Addr) (a : Addr) (g : G79) (σ : St) (H : Hp) : Prop := (∃ j4 j5 j6 j7 j8 j9 j10 j11 j12 j13 j14 : Option V, σ = [Option.some (.ref a), Option.some (.ref g.vp), Option.some (.ref g.ap), Option.some (.ref g.lp), j4, j5, j6, j7, j8, j9, j10, j11, j12, j13, j14]) ∧ Same g.B H ∧ g.Ok PR PC CD C
def F3 (PR PC CD C : Addr) (a : Addr) (g : G79) (σ : St) (H : Hp) : Prop := ∃ nm lw, (∃ j6 j7 j8 j9 j10 j11 j12 j13 j14 : Option V, σ = [Option.some (.ref a), Option.some (.ref g.vp), Option.some (.ref g.ap), Option.some (.ref g.lp), Option.some (.str nm), Option.some (.ref lw), j6, j7, j8, j9, j10, j11, j12, j13, j14]) ∧ Same g.B H ∧ g.Ok PR PC CD C ∧ nm ∈ ups ++ downs ∧ H lw = Option.some (.lst [])
def F4 (PR PC CD C : Addr) (a : Addr) (g : G79) (σ : St) (H : Hp) : Prop := ∃ nm lw us, (∃ j6 j7 j8 j9 j10 j11 j12 j13 j14 : Option V, σ = [Option.some (.ref a), Option.some (.ref g.vp), Option.some (.ref g.ap), Option.some (.ref g.lp), Option.some (.str nm), Option.some (.ref lw), j6, j7, j8, j9, j10, j11, j12, j13, j14]) ∧ Same g.B H ∧ g.Ok PR PC CD C ∧ nm ∈ ups ++ downs ∧ H lw = Option.some (.lst us) ∧ us.length ≤ 20 ∧ ∀ u ∈ us, WhU H u
def F5 (K : PySem.W.Frag) (PR PC CD C : Addr) (a : Addr) (g : G79) (σ : St) (H : Hp) : Prop := ∃ nm lw us lo xs, (∃ j6 j7 j8 j10 j11 j12 j13 j14 : Option V, σ = [Option.some (.ref a), Option.some (.ref g.vp), Option.some (.ref g.ap), Option.some (.ref g.lp), Option.some (.str nm), Option.some (.ref lw), j6, j7, j8, Option.some (.ref lo), j10, j11, j12, j13, j14]) ∧ Same g.B H ∧ g.Ok PR PC CD C ∧ nm ∈ ups ++ downs ∧ H lw = Option.some (.lst us) ∧ us.length ≤ 20 ∧ (∀ u ∈ us, WhU H u) ∧
  H lo = Option.some (.lst xs) ∧ xs.length = 10 ∧ OddAt K H (placesE g.es) xs
def F6 (K : PySem.W.Frag) (PR PC CD C : Addr) (a : Addr) (g : G79) (σ : St) (H : Hp) : Prop := ∃ nm lo xs, (∃ j5 j6 j7 j8 j10 j11 j12 j13 j14 : Option V, σ = [Option.some (.ref a), Option.some (.ref g.vp), Option.some (.ref g.ap), Option.some (.ref g.lp), Option.some (.str nm), j5, j6, j7, j8, Option.some (.ref lo), j10, j11, j12, j13, j14]) ∧ Same g.B H ∧ g.Ok PR PC CD C ∧ nm ∈ ups ++ downs ∧
  H lo = Option.some (.lst xs) ∧ OddAt K H (placesE g.es) xs
/-- name, whole = (_law_names(plain)[0], []) -/
theorem b_name (hr : Room 25 (lawX P w K mg base f cdv A outer s H0 E).A) (DN : Has P w K mg base "_law_names" 1 ["plain"] spLNames) : Stm (lawX P w K mg base f cdv A outer s H0 E) (bLaw.getD 2 noStmt) (F2 PR PC CD C a) (F3 PR PC CD C a) := by
  obtain ⟨f1, fd1, m1, k1, b1, G1⟩ := DN
  have r1 : Room 1 (lawX P w K mg base f cdv A outer s H0 E).A := hr.mono (by decide)
  refine ⟨_, ps_par (i := 4) (j := 5) (by rfl) scLaw.nd rfl rfl (by decide) rfl rfl (pa_cons (pe_ix ix_list (pe_call G1 r1 rfl m1 k1 b1 .nil pass0 (pa_cons (pv 1) pa_nil)) pe_int (fun _ _ => rfl)) (pa_cons (pe_lst pa_nil) pa_nil)) (by rfl), fun g D0 σ H h k => ?_⟩
  obtain ⟨⟨j4, j5, j6, j7, j8, j9, j10, j11, j12, j13, j14, rfl⟩, sB, ok⟩ := h
  have p5 := ok.pok.p5
  have p1 := ok.pok.p1
  have h0 : g.es[0]? = some (g.es[0]'(by omega)) := List.getElem?_eq_getElem _
  have ht := ok.ttl _ (List.mem_of_getElem? h0)
  generalize g.es[0]'(by omega) = e0 at h0 ht
  refine ⟨_, rfl, .ref g.vp, g.es, g.ins, [], rfl, ok.pv.same sB, by omega, fun H1 r s1 nr h1 => ?_⟩
  refine ⟨r, _, _, .str e0.name, rfl, rfl, SqL.of h1, atI_nat (j := 0) (by rw [List.getElem?_map, List.getElem?_map, h0]; rfl), by show 0 ≤ sizeLine; decide, fun lw nl => ?_⟩
  exact ⟨_, _, rfl, k _ _ ⟨e0.name, lw, ⟨_, _, _, _, _, _, _, _, _, rfl⟩, (sB.trans s1).trans (same_upd nl _), ok, ht, upd_same⟩⟩
end
end TS
namespace TS
open PySem L2
section
variable {P : Program} {w : World} {K : PySem.W.Frag} {mg : Str → Option Value} {base : Heap}
variable {f a PR PC CD C NP : Addr} {cdv : Value} {A : Around} {outer : List Env} {s : Shared} {H0 : Hp} {E : XK}
/-- whole = [(title, at) ..] -/
theorem b_whole (hr : Room 25 (lawX P w K mg base f cdv A outer s H0 E).A) (T : BltT mg) (U : BltU mg) : Stm (lawX P w K mg base f cdv A outer s H0 E) (bLaw.getD 3 noStmt) (F3 PR PC CD C a) (F4 PR PC CD C a) := by
  have hu := hu_of hr
  refine ⟨_, ps_for PassesOwn.never rfl (pi_list (pe_dget hu (pv 1) pe_str (fun _ _ => rfl))) (pg_tup (by rfl) (pgs_cons (pg_name (i := 6) scLaw.nd rfl (.inr rfl)) (pgs_cons (pg_name (i := 7) scLaw.nd rfl (.inl rfl)) (pgs_cons (pg_name (i := 8) scLaw.nd rfl (.inl rfl)) pgs_nil))))
      (pss_one (ps_set (i := 5) scLaw.nd rfl (.inl rfl) (pe_op op_cat (pv 5) (pe_lc (own := [("at", 13)]) (g := gName 13) (tt := tYes) (te := tTup (tCons (tVar 6) (tCons (tVar 13) tNil))) (by rfl) scLaw.nd (pi_range1 rfl U.range (pa_cons (pe_callB call_len_seq (by rfl) T.len PySem.boot_len (pa_cons (pv 8) pa_nil)) pa_nil)) (blkOk_by (own := [("at", 13)]) (N := nmLaw) (sc := defScope sLaw) (by decide +kernel))
        (fun _ _ _ _ _ => pg_name (i := 13) scLaw.nd rfl (Or.inl rfl))
        (fun _ _ _ _ _ => pts_nil)
        (fun _ _ _ _ _ => pe_tup (pa_cons (pv 6) (pa_cons (pv 13) pa_nil))))))), fun g D0 σ H h k => ?_⟩
  obtain ⟨nm, lw, ⟨j6, j7, j8, j9, j10, j11, j12, j13, j14, rfl⟩, sB, ok, ht, hlw0⟩ := h
  obtain ⟨q0, lp, li, ys, e0, hq, hlp, hE, hli, _, _⟩ := ok.pv.same sB
  have lE := hE.1
  have p5 := ok.pok.p5
  refine ⟨_, rfl, q0, _, e0, DGet.k (k := .inr "processes") hq, lp, rfl, ⟨_, SqL.of hlp⟩, ?_⟩
  refine for_list (K := K) (xs := ys) (fun i σ G => Same H G ∧ ∃ (rf : Addr) (us : List V), (∃ j6 j7 j8 : Option V, σ = [some (.ref a), some (.ref g.vp), some (.ref g.ap), some (.ref g.lp), some (.str nm), some (.ref rf), j6, j7, j8, j9, j10, j11, j12, j13, j14]) ∧ G rf = some (.lst us) ∧ us.length ≤ 4 * i ∧ ∀ u ∈ us, WhU G u) ⟨Same.refl _, lw, [], ⟨_, _, _, rfl⟩, hlw0, Nat.zero_le _, fun u hu => by cases hu⟩ (fun i σ G hi z => SqL.of (z.1 _ _ hlp)) (fun i x σ G hx z => ?_) (fun σ G z => ?_)
  · obtain ⟨sG, rf, us, ⟨i6, i7, i8, rfl⟩, hf, lu, hU⟩ := z
    have hi : i < g.es.length := by
      have := (List.getElem?_eq_some_iff.mp hx).1
      omega
    have hei : g.es[i]? = some g.es[i] := List.getElem?_eq_getElem hi
    have hem : g.es[i] ∈ g.es := List.getElem_mem hi
    have d4 := (ok.eok _ hem).d4
    have hti := ok.ttl _ hem
    obtain ⟨t, lws, ld, ds, rfl, htt, hlws, hld, hD, _, _⟩ := (hE.2 i x _ hx hei).same sG
    generalize g.es[i] = e at hei hem d4 hti htt hlws hD
    have lD := hD.1
    refine ⟨t, _, rfl, SqT.of htt, rfl, _, _, rfl, _, _, rfl, _, _, rfl, rfl, ?_⟩
    refine ⟨_, rfl, _, rfl, ld, _, rfl, .inl (SqL.of hld), ds.length, rfl, by omega, by omega, fun D hD => lc_it (walk_range (lo := 0) (n := ds.length)) (fun j G2 => Same G G2 ∧ ∃ vs, G2 D = some (.lst vs) ∧ vs.length ≤ j ∧ ∀ u ∈ vs, WhU G2 u) ⟨same_upd hD _, [], upd_same, Nat.le_refl _, fun x hx => by cases hx⟩ (fun j G2 _ z => trivial) (fun j x G2 G3 hj z hy => ?_) (fun G2 z => ?_)⟩
    · obtain ⟨s2, vs, hvs, lv, hV⟩ := z
      obtain ⟨rfl, hx⟩ := hy
      have hx : x = V.int (j : Int) := by
        rw [hx]
        show V.int (0 + (j : Int)) = _
        rw [Int.zero_add]
      subst hx
      refine ⟨rfl, ?_⟩
      unfold tYes
      dsimp only
      rw [if_pos rfl]
      refine ⟨_, rfl, _, rfl, by show 2 ≤ sizeLine; decide, fun t2 ht2 => ?_⟩
      have g2 : Same G3 (upd G3 t2 (.tup [.str e.name, .int (j : Nat)])) := same_upd ht2 _
      have v2 : (upd G3 t2 (.tup [.str e.name, .int (j : Nat)])) t2 = some (.tup [.str e.name, .int (j : Nat)]) := upd_same
      generalize upd G3 t2 (.tup [.str e.name, .int (j : Nat)]) = G4 at *
      have u2 := g2 _ _ hvs
      have s3 := s2.trans g2
      have LD : Lists [D] G4 := fun b m => by rw [List.mem_singleton.mp m]; exact ⟨_, u2⟩
      have o5 : SameOff [D] G4 (upd G4 D (.lst (vs ++ [.ref t2]))) := off_upd (SameOff.refl _ _) (by simp)
      refine ⟨vs, u2, small1000 (by omega), fun b o e => ?_, vs ++ [.ref t2], upd_same, by simp; omega, fun u hu => ?_⟩
      · rw [upd_ne (ne_of_none e hD)]
        exact s3 b o e
      · rcases List.mem_append.mp hu with hu | hu
        · exact ((hV u hu).same g2).off o5 LD
        · rw [List.mem_singleton.mp hu]
          exact (show WhU G4 (.ref t2) from ⟨t2, e.name, j, rfl, v2, hti, by omega⟩).off o5 LD
    · obtain ⟨s2, vs, hvs, lv, hV⟩ := z
      refine ⟨rf, D, us, vs, rfl, rfl, s2 _ _ hf, hvs, Nat.le_of_lt (small1000 (by omega)), fun p hp => ?_⟩
      have g5 : Same G2 (upd G2 p (.lst (us ++ vs))) := same_upd hp _
      refine ⟨(sG.trans s2).trans g5, p, us ++ vs, ⟨_, _, _, rfl⟩, upd_same, by rw [List.length_append]; omega, fun u hu => ?_⟩
      rcases List.mem_append.mp hu with hu | hu
      · exact ((hU u hu).same s2).same g5
      · exact (hV u hu).same g5
  · obtain ⟨sG, rf, us, ⟨i6, i7, i8, rfl⟩, hf, lu, hU⟩ := z
    exact k _ _ ⟨nm, rf, us, ⟨_, _, _, _, _, _, _, _, _, rfl⟩, sB.trans sG, ok, ht, hf, by omega, hU⟩
/-- odd = [..] -/
theorem b_odd : Stm (lawX P w K mg base f cdv A outer s H0 E) (bLaw.getD 4 noStmt) (F4 PR PC CD C a) (F5 K PR PC CD C a) := by
  refine ⟨_, ps_set (i := 9) scLaw.nd rfl (.inl rfl) (pe_lst (pa_cons pe_non (pa_cons pe_int (pa_cons (pv 4) (pa_cons (pe_tup (pa_cons (pv 4) pa_nil)) (pa_cons (pe_lst (pa_cons (pv 4) (pa_cons pe_int pa_nil))) (pa_cons (pe_tup (pa_cons (pv 4) (pa_cons pe_int (pa_cons pe_int pa_nil)))) (pa_cons (pe_tup (pa_cons (pv 4) (pa_cons (pe_un un_neg pe_int) pa_nil))) (pa_cons (pe_tup (pa_cons (pv 4) (pa_cons pe_int pa_nil))) (pa_cons (pe_tup (pa_cons (pv 4) (pa_cons pe_non pa_nil))) (pa_cons (pe_tup (pa_cons (pv 4) (pa_cons pe_bl pa_nil))) pa_nil))))))))))), fun g D0 σ H h k => ?_⟩
  obtain ⟨nm, lw, us, ⟨j6, j7, j8, j9, j10, j11, j12, j13, j14, rfl⟩, sB, ok, ht, hlw, lu, hU⟩ := h
  refine ⟨_, rfl, _, rfl, by show 1 ≤ sizeLine; decide, fun t1 ht1 => ⟨_, rfl, by show 2 ≤ sizeLine; decide, fun t2 ht2 => ⟨_, rfl, by show 3 ≤ sizeLine; decide, fun t3 ht3 => ⟨_, rfl, _, rfl, by show 2 ≤ sizeLine; decide, fun t4 ht4 => ⟨_, rfl, by show 2 ≤ sizeLine; decide, fun t5 ht5 => ⟨_, rfl, by show 2 ≤ sizeLine; decide, fun t6 ht6 => ⟨_, rfl, by show 2 ≤ sizeLine; decide, fun t7 ht7 => ⟨by show 10 ≤ sizeLine; decide, fun lo hlo => ?_⟩⟩⟩⟩⟩⟩⟩⟩
  rw [show (fun i : Int => V.int (-i)) 1 = V.int (-1) from rfl] at *
  have g1 : Same H (upd H t1 (.tup [.str nm])) := same_upd ht1 _
  have v1 : (upd H t1 (.tup [.str nm])) t1 = some (.tup [.str nm]) := upd_same
  generalize upd H t1 (.tup [.str nm]) = H1 at *
  have g2 : Same H1 (upd H1 t2 (.lst [.str nm, .int 0])) := same_upd ht2 _
  have v2 : (upd H1 t2 (.lst [.str nm, .int 0])) t2 = some (.lst [.str nm, .int 0]) := upd_same
  generalize upd H1 t2 (.lst [.str nm, .int 0]) = H2 at *
  have g3 : Same H2 (upd H2 t3 (.tup [.str nm, .int 0, .int 0])) := same_upd ht3 _
  have v3 : (upd H2 t3 (.tup [.str nm, .int 0, .int 0])) t3 = some (.tup [.str nm, .int 0, .int 0]) := upd_same
  generalize upd H2 t3 (.tup [.str nm, .int 0, .int 0]) = H3 at *
  have g4 : Same H3 (upd H3 t4 (.tup [.str nm, .int (-1)])) := same_upd ht4 _
  have v4 : (upd H3 t4 (.tup [.str nm, .int (-1)])) t4 = some (.tup [.str nm, .int (-1)]) := upd_same
  generalize upd H3 t4 (.tup [.str nm, .int (-1)]) = H4 at *
  have g5 : Same H4 (upd H4 t5 (.tup [.str nm, .int 9])) := same_upd ht5 _
  have v5 : (upd H4 t5 (.tup [.str nm, .int 9])) t5 = some (.tup [.str nm, .int 9]) := upd_same
  generalize upd H4 t5 (.tup [.str nm, .int 9]) = H5 at *
  have g6 : Same H5 (upd H5 t6 (.tup [.str nm, .non])) := same_upd ht6 _
  have v6 : (upd H5 t6 (.tup [.str nm, .non])) t6 = some (.tup [.str nm, .non]) := upd_same
  generalize upd H5 t6 (.tup [.str nm, .non]) = H6 at *
  have g7 : Same H6 (upd H6 t7 (.tup [.str nm, .bl true])) := same_upd ht7 _
  have v7 : (upd H6 t7 (.tup [.str nm, .bl true])) t7 = some (.tup [.str nm, .bl true]) := upd_same
  generalize upd H6 t7 (.tup [.str nm, .bl true]) = H7 at *
  have g8 : Same H7 (upd H7 lo (.lst [.non, .int 5, .str nm, .ref t1, .ref t2, .ref t3, .ref t4, .ref t5, .ref t6, .ref t7])) := same_upd hlo _
  have v8 : (upd H7 lo (.lst [.non, .int 5, .str nm, .ref t1, .ref t2, .ref t3, .ref t4, .ref t5, .ref t6, .ref t7])) lo = some (.lst [.non, .int 5, .str nm, .ref t1, .ref t2, .ref t3, .ref t4, .ref t5, .ref t6, .ref t7]) := upd_same
  generalize upd H7 lo (.lst [.non, .int 5, .str nm, .ref t1, .ref t2, .ref t3, .ref t4, .ref t5, .ref t6, .ref t7]) = H8 at *
  have w7 := g8 _ _ v7
  have w6 := g8 _ _ (g7 _ _ v6)
  have w5 := g8 _ _ (g7 _ _ (g6 _ _ v5))
  have w4 := g8 _ _ (g7 _ _ (g6 _ _ (g5 _ _ v4)))
  have w3 := g8 _ _ (g7 _ _ (g6 _ _ (g5 _ _ (g4 _ _ v3))))
  have w2 := g8 _ _ (g7 _ _ (g6 _ _ (g5 _ _ (g4 _ _ (g3 _ _ v2)))))
  have w1 := g8 _ _ (g7 _ _ (g6 _ _ (g5 _ _ (g4 _ _ (g3 _ _ (g2 _ _ v1))))))
  have g18 := ((((((g1.trans g2).trans g3).trans g4).trans g5).trans g6).trans g7).trans g8
  have pn : Plain nm := plain_word (titles_ok nm ht).1
  have l4 := ok.lt4
  have tx := ttl_text nm ht
  refine k _ _ ⟨nm, lw, us, lo, _, ⟨_, _, _, _, _, _, _, _, rfl⟩, sB.trans g18, ok, ht, g18 _ _ hlw, lu, fun u hu => (hU u hu).same g18, v8, rfl, fun x hx => ?_⟩
  simp only [List.mem_cons, List.not_mem_nil, or_false] at hx
  rcases hx with rfl | rfl | rfl | rfl | rfl | rfl | rfl | rfl | rfl | rfl
  · exact ⟨.other (.base .non) (kit_ty (by decide +kernel)), _, .non, plain_all (by decide +kernel)⟩
  · exact ⟨.other (.base (.int 5)) (kit_ty (by decide +kernel)), _, .int (by decide +kernel), plain_all (by decide +kernel)⟩
  · exact ⟨.other (.base (.str nm)) (kit_ty (by decide +kernel)), _, .str (Nat.le_trans tx.1 (by decide)), plain_all tx.2⟩
  · exact ⟨.size w1 (by simp), rep_good ht (.tup (SqT.of w1) (.cons (.str _) .nil)) (by simp [oddD])⟩
  · exact ⟨.other (.base (.lst w2)) (kit_ty (by decide +kernel)), rep_good ht (.lst (SqL.of w2) (.cons (.str _) (.cons (.int _) .nil))) (by simp [oddD])⟩
  · exact ⟨.size w3 (by simp), rep_good ht (.tup (SqT.of w3) (.cons (.str _) (.cons (.int _) (.cons (.int _) .nil)))) (by simp [oddD])⟩
  · have c := PlCase.pair (K := K) (pls := placesE g.es) w4 pn
    rw [plIn_no fun x hx _ => by omega] at c
    exact ⟨c, rep_good ht (.tup (SqT.of w4) (.cons (.str _) (.cons (.int _) .nil))) (by simp [oddD])⟩
  · have c := PlCase.pair (K := K) (pls := placesE g.es) w5 pn
    rw [plIn_no fun x hx _ => by have := (l4 x hx).1; omega] at c
    exact ⟨c, rep_good ht (.tup (SqT.of w5) (.cons (.str _) (.cons (.int _) .nil))) (by simp [oddD])⟩
  · exact ⟨.noNum (b := false) (c := false) w6 (.base .non) (kit_ty (by decide +kernel)) (kit_ty (by decide +kernel)) rfl, rep_good ht (.tup (SqT.of w6) (.cons (.str _) (.cons .non .nil))) (by simp [oddD])⟩
  · exact ⟨.noNum (b := true) (c := true) w7 (.base (.bl true)) (kit_ty (by decide +kernel)) (kit_ty (by decide +kernel)) rfl, rep_good ht (.tup (SqT.of w7) (.cons (.str _) (.cons (.bl _) .nil))) (by simp [oddD])⟩
/-- a pair that is no place -/
def WhN (pls : List (Str × Nat)) (H : Hp) (u : V) : Prop := ∃ (t : Addr) (nm : Str) (i : Nat), u = .ref t ∧ H t = Option.some (.tup [.str nm, .int i]) ∧ nm ∈ ups ++ downs ∧ i < 4 ∧ (nm, i) ∉ pls
theorem WhN.off {Ds : List Addr} {pls : List (Str × Nat)} {H H' : Hp} {u : V} (h : WhN pls H u) (s : SameOff Ds H H') (hl : Lists Ds H) : WhN pls H' u := by
  obtain ⟨t, nm, i, e, ht, r⟩ := h
  exact ⟨t, nm, i, e, s _ _ ht (no_list hl ht (fun _ z => by cases z)), r⟩
theorem WhN.odd {pls : List (Str × Nat)} {H : Hp} {u : V} (h : WhN pls H u) : Odd1 K H pls u := by
  obtain ⟨t, nm, i, rfl, ht, hm, i4, no⟩ := h
  have c := PlCase.pair (K := K) (pls := pls) ht (plain_word (titles_ok nm hm).1)
  rw [plIn_nat, decide_eq_false no] at c
  refine ⟨c, rep_good hm (.tup (SqT.of ht) (.cons (.str _) (.cons (.int _) .nil))) ?_⟩
  rcases i with _ | _ | _ | _ | i
  · simp [oddD]
  · simp [oddD]
  · simp [oddD]
  · simp [oddD]
  · omega
/-- odd = odd + [..] + [place ..] -/
theorem b_odd2 (hr : Room 25 (lawX P w K mg base f cdv A outer s H0 E).A) : Stm (lawX P w K mg base f cdv A outer s H0 E) (bLaw.getD 5 noStmt) (F5 K PR PC CD C a) (F6 K PR PC CD C a) := by
  have hu65 : (lawX P w K mg base f cdv A outer s H0 E).A.units + 65 < cLine := by
    have := hr.un
    omega
  refine ⟨_, ps_set (i := 9) scLaw.nd rfl (.inl rfl) (pe_op op_cat (pe_op op_cat (pv 9) (pe_lst (pa_cons (pe_tup (pa_cons pe_str (pa_cons pe_int pa_nil))) (pa_cons (pe_tup (pa_cons pe_non (pa_cons pe_int pa_nil))) (pa_cons (pe_tup (pa_cons pe_int (pa_cons (pv 4) pa_nil))) (pa_cons (pe_tup (pa_cons (pe_tup (pa_cons (pv 4) pa_nil)) (pa_cons pe_int pa_nil))) pa_nil))))))
    (pe_lc (own := [("place", 14)]) (g := gName 14) (tt := tTest (tOp (rNotInD K) (tVar 14) (tVar 3))) (te := tVar 14) (by rfl) scLaw.nd (pi_list (pv 5)) (blkOk_by (own := [("place", 14)]) (N := nmLaw) (sc := defScope sLaw) (by decide +kernel)) (fun _ _ _ _ _ => pg_name (i := 14) scLaw.nd rfl (Or.inl rfl))
      (fun _ _ _ _ _ => pts_one (pt_cmpR (op_notInD hu65) (pv 14) (pv 3) (by rfl)))
      (fun _ _ _ _ _ => pv 14))), fun g D0 σ H h k => ?_⟩
  obtain ⟨nm, lw, us, lo, xs, ⟨j6, j7, j8, j10, j11, j12, j13, j14, rfl⟩, sB, ok, ht, hlw, lu, hU, hlo, lx, hO⟩ := h
  refine ⟨_, rfl, by show 2 ≤ sizeLine; decide, fun t1 ht1 => ⟨by show 2 ≤ sizeLine; decide, fun t2 ht2 => ⟨_, rfl, by show 2 ≤ sizeLine; decide, fun t3 ht3 => ⟨_, rfl, by show 1 ≤ sizeLine; decide, fun t4 ht4 => ⟨by show 2 ≤ sizeLine; decide, fun t5 ht5 => ⟨by show 4 ≤ sizeLine; decide, fun l6 hl6 => ?_⟩⟩⟩⟩⟩⟩
  have g1 : Same H (upd H t1 (.tup [.str "nobody", .int 0])) := same_upd ht1 _
  have v1 : (upd H t1 (.tup [.str "nobody", .int 0])) t1 = some (.tup [.str "nobody", .int 0]) := upd_same
  generalize upd H t1 (.tup [.str "nobody", .int 0]) = H1 at *
  have g2 : Same H1 (upd H1 t2 (.tup [.non, .int 0])) := same_upd ht2 _
  have v2 : (upd H1 t2 (.tup [.non, .int 0])) t2 = some (.tup [.non, .int 0]) := upd_same
  generalize upd H1 t2 (.tup [.non, .int 0]) = H2 at *
  have g3 : Same H2 (upd H2 t3 (.tup [.int 0, .str nm])) := same_upd ht3 _
  have v3 : (upd H2 t3 (.tup [.int 0, .str nm])) t3 = some (.tup [.int 0, .str nm]) := upd_same
  generalize upd H2 t3 (.tup [.int 0, .str nm]) = H3 at *
  have g4 : Same H3 (upd H3 t4 (.tup [.str nm])) := same_upd ht4 _
  have v4 : (upd H3 t4 (.tup [.str nm])) t4 = some (.tup [.str nm]) := upd_same
  generalize upd H3 t4 (.tup [.str nm]) = H4 at *
  have g5 : Same H4 (upd H4 t5 (.tup [.ref t4, .int 0])) := same_upd ht5 _
  have v5 : (upd H4 t5 (.tup [.ref t4, .int 0])) t5 = some (.tup [.ref t4, .int 0]) := upd_same
  generalize upd H4 t5 (.tup [.ref t4, .int 0]) = H5 at *
  have g6 : Same H5 (upd H5 l6 (.lst [.ref t1, .ref t2, .ref t3, .ref t5])) := same_upd hl6 _
  have v6 : (upd H5 l6 (.lst [.ref t1, .ref t2, .ref t3, .ref t5])) l6 = some (.lst [.ref t1, .ref t2, .ref t3, .ref t5]) := upd_same
  generalize upd H5 l6 (.lst [.ref t1, .ref t2, .ref t3, .ref t5]) = H6 at *
  have w5 := g6 _ _ v5
  have w4 := g6 _ _ (g5 _ _ v4)
  have w3 := g6 _ _ (g5 _ _ (g4 _ _ v3))
  have w2 := g6 _ _ (g5 _ _ (g4 _ _ (g3 _ _ v2)))
  have w1 := g6 _ _ (g5 _ _ (g4 _ _ (g3 _ _ (g2 _ _ v1))))
  have g16 := ((((g1.trans g2).trans g3).trans g4).trans g5).trans g6
  refine ⟨lo, l6, xs, _, rfl, rfl, g16 _ _ hlo, v6, Nat.le_of_lt (small1000 (by rw [lx]; simp)), fun q7 hq7 => ?_⟩
  have g7 : Same H6 (upd H6 q7 (.lst (xs ++ [.ref t1, .ref t2, .ref t3, .ref t5]))) := same_upd hq7 _
  have v7 : (upd H6 q7 (.lst (xs ++ [.ref t1, .ref t2, .ref t3, .ref t5]))) q7 = some (.lst (xs ++ [.ref t1, .ref t2, .ref t3, .ref t5])) := upd_same
  have lx4 : (xs ++ [V.ref t1, .ref t2, .ref t3, .ref t5]).length = 14 := by rw [List.length_append, lx]; rfl
  have l4 := ok.lt4
  have g17 := g16.trans g7
  have hO7 : OddAt K (upd H6 q7 (.lst (xs ++ [.ref t1, .ref t2, .ref t3, .ref t5]))) (placesE g.es) (xs ++ [.ref t1, .ref t2, .ref t3, .ref t5]) := by
    refine (hO.same g17).app fun x hx => Odd1.same ?_ g7
    simp only [List.mem_cons, List.not_mem_nil, or_false] at hx
    rcases hx with rfl | rfl | rfl | rfl
    · have c := PlCase.pair (K := K) (pls := placesE g.es) w1 (plain_all (by decide +kernel))
      rw [plIn_no fun x hx e => by have := (l4 x hx).2; rw [e] at this; exact absurd this ttl_z] at c
      exact ⟨c, rep_good ht (.tup (SqT.of w1) (.cons (.str _) (.cons (.int _) .nil))) (by simp [oddD])⟩
    · exact ⟨.noStr w2 (.base .non) (kit_ty (by decide +kernel)), rep_good ht (.tup (SqT.of w2) (.cons .non (.cons (.int _) .nil))) (by simp [oddD])⟩
    · exact ⟨.noStr w3 (.base (.int 0)) (kit_ty (by decide +kernel)), rep_good ht (.tup (SqT.of w3) (.cons (.int _) (.cons (.str _) .nil))) (by simp [oddD])⟩
    · exact ⟨.noStr w5 (.base (.tup w4)) (kit_ty (by decide +kernel)), rep_good ht (.tup (SqT.of w5) (.cons (.tup (SqT.of w4) (.cons (.str _) .nil)) (.cons (.int _) .nil))) (by simp [oddD])⟩
  generalize upd H6 q7 (.lst (xs ++ [.ref t1, .ref t2, .ref t3, .ref t5])) = H7 at *
  generalize xs ++ [V.ref t1, .ref t2, .ref t3, .ref t5] = zs at *
  have sB7 := sB.trans g17
  refine ⟨_, rfl, lw, rfl, ⟨_, SqL.of (g17 _ _ hlw)⟩, fun D hD => lc_it (walk_list (K := K) (a := lw) (xs := us)) (fun i G => Same H7 G ∧ ∃ vs, G D = some (.lst vs) ∧ vs.length ≤ i ∧ ∀ u ∈ vs, WhN (placesE g.es) G u) ⟨same_upd hD _, [], upd_same, Nat.le_refl _, fun x hx => by cases hx⟩ (fun i G _ z => SqL.of (z.1 _ _ (g17 _ _ hlw))) (fun i x G G' hi z hy => ?_) (fun G z => ?_)⟩
  · obtain ⟨sG, vs, hvs, lv, hV⟩ := z
    obtain ⟨rfl, hx⟩ := hy
    have hu := (hU x (List.mem_of_getElem? hx)).same (g17.trans sG)
    obtain ⟨t, tn, j, rfl, htt, htn, j4, -⟩ : ∃ (t : Addr) (tn : Str) (j : Nat), x = .ref t ∧ G' t = Option.some (.tup [.str tn, .int j]) ∧ tn ∈ ups ++ downs ∧ j < 4 ∧ True := by
      obtain ⟨t, tn, j, b, c, d, e⟩ := hu
      exact ⟨t, tn, j, b, c, d, e, trivial⟩
    have sBG := sB7.trans sG
    have ptn : Plain tn := plain_word (titles_ok tn htn).1
    refine ⟨rfl, _, rfl, _, rfl, .tuple [.str tn, .int (j : Nat)], (placesE g.es).map plD, .tup (SqT.of htt) (.cons (.str _) (.cons (.int _) .nil)), .lst (SqL.of (sBG _ _ ok.hl)) (plD_dp (ok.eY.imp fun v x h => h.same sBG)), shaped_mk (by simp [PyData.canLay0, PyData.canLayAll0, ptn.ok]) (by simp [PyData.depth, PyData.depthAll]), plsD_sh ok.pl, _, rfl, ?_⟩
    rw [plD_any, plIn_nat]
    by_cases c : (tn, j) ∈ placesE g.es
    · rw [decide_eq_true c]
      exact iteF ⟨sG, vs, hvs, by omega, hV⟩
    · rw [decide_eq_false c]
      have LD : Lists [D] G' := fun b m => by rw [List.mem_singleton.mp m]; exact ⟨_, hvs⟩
      have o5 : SameOff [D] G' (upd G' D (.lst (vs ++ [.ref t]))) := off_upd (SameOff.refl _ _) (by simp)
      refine iteT ⟨_, rfl, vs, hvs, small1000 (by omega), fun b o e => ?_, vs ++ [.ref t], upd_same, by simp; omega, fun u hu => ?_⟩
      · rw [upd_ne (ne_of_none e hD)]
        exact sG b o e
      · rcases List.mem_append.mp hu with hu | hu
        · exact (hV u hu).off o5 LD
        · rw [List.mem_singleton.mp hu]
          exact (show WhN (placesE g.es) G' (.ref t) from ⟨t, tn, j, rfl, htt, htn, j4, c⟩).off o5 LD
  · obtain ⟨sG, vs, hvs, lv, hV⟩ := z
    refine ⟨q7, D, zs, vs, rfl, rfl, sG _ _ v7, hvs, Nat.le_of_lt (small1000 (by omega)), fun q hq => ?_⟩
    have g8 : Same G (upd G q (.lst (zs ++ vs))) := same_upd hq _
    exact k _ _ ⟨nm, q, _, ⟨_, _, _, _, _, _, _, _, _, rfl⟩, (sB7.trans sG).trans g8, ok, ht, upd_same, (hO7.same (sG.trans g8)).app fun x hx => ((hV x hx).odd).same g8⟩
end
end TS
namespace TS
open PySem L2
abbrev sSole : Stmt := top 83
section
variable {P : Program} {w : World} {K : PySem.W.Frag} {mg : Str → Option Value} {base : Heap}
variable {f a PR PC CD C NP : Addr} {cdv : Value} {A : Around} {outer : List Env} {s : Shared} {H0 : Hp} {E : XK}
/-- one turn of the two outer loops -/
structure J79 where
  g : G79
  nm : Str
  lo : Addr
  j5 : Option V
  j6 : Option V
  j7 : Option V
  j8 : Option V
  j13 : Option V
  j14 : Option V
  x : V
  way : Int
  B : Hp
def FJ (K : PySem.W.Frag) (PR PC CD C : Addr) (a : Addr) (j : J79) (σ : St) (H : Hp) : Prop := (∃ j12 : Option V, σ = [Option.some (.ref a), Option.some (.ref j.g.vp), Option.some (.ref j.g.ap), Option.some (.ref j.g.lp), Option.some (.str j.nm), j.j5, j.j6, j.j7, j.j8, Option.some (.ref j.lo), Option.some j.x, Option.some (.int j.way), j12, j.j13, j.j14]) ∧ Same j.B H ∧ Same j.g.B j.B ∧ j.g.Ok PR PC CD C ∧ Odd1 K j.B (placesE j.g.es) j.x
theorem catA_two {t4 t5 : Addr} {xs ys : List V} {H : Hp} {Q : VK} (h2 : H t5 = some (.tup ys)) (h1 : H t4 = some (.tup xs)) (ne : ys ≠ []) (l : xs.length + ys.length ≤ sizeLine) (h : ∀ H6 t6, Same H H6 → RowAt H6 t6 (xs ++ ys) → Q (.ref t6) H6) : rCatA K (.ref t4) (.ref t5) H Q := by
  refine ⟨t4, t5, xs, ys, rfl, rfl, SqT.of h1, SqT.of h2, l, fun e => ?_, fun _ e => (ne e).elim, fun _ _ p hp => h _ _ (same_upd hp _) (.inr upd_same)⟩
  subst e
  exact h H t5 (Same.refl _) (.inr h2)
/-- for some in [..] -/
theorem b_inner (hr : Room 25 (lawX P w K mg base f cdv A outer s H0 E).A) (hG : (lawX P w K mg base f cdv A outer s H0 E).A.guards = some []) (T : BltT mg) (mr : mg "repr" = none) (DR : HasG P w K mg base "_law_refused" 25 ["program", "places", "way"] (spRefH K PR PC CD C)) :
    Stm (lawX P w K mg base f cdv A outer s H0 E) ((forBody ((forBody (bLaw.getD 6 noStmt)).getD 0 noStmt)).getD 0 noStmt) (FJ K PR PC CD C a) (FJ K PR PC CD C a) := by
  obtain ⟨f1, fd1, m1, k1, b1, G1⟩ := DR
  have hu : (lawX P w K mg base f cdv A outer s H0 E).A.units + 64 < cLine := by
    have := hr.un
    omega
  refine ⟨_, ps_for PassesOwn.never rfl (pi_list (pe_lst (pa_cons (pe_lst (pa_cons (pv 10) pa_nil)) (pa_cons (pe_op op_cat (pv 3) (pe_lst (pa_cons (pv 10) pa_nil))) (pa_cons (pe_op op_catA (pe_callTy cr_tupL (by rfl) T.tup (by decide +kernel) (pa_cons (pv 3) pa_nil)) (pe_tup (pa_cons (pv 10) (pa_cons pe_non pa_nil)))) pa_nil))))) (pg_name (i := 12) scLaw.nd rfl (.inl rfl))
    (pss_one (ps_if (pt_cmpR (op_neD hr.units) (pe_callG (E := E0) G1 hG hr rfl m1 k1 b1 (pa_cons (pv 2) (pa_cons (pv 12) (pa_cons (pv 11) pa_nil))))
      (pe_lst (pa_cons (pe_callB (call_reprX hG hu) (by rfl) mr (by decide +kernel) (pa_cons (pv 10) pa_nil)) (pa_cons pe_bl pa_nil))) (nomark _)) (pss_one (ps_ret pe_bl)) pss_nil)), fun j D0 σ H h k => ?_⟩
  obtain ⟨⟨j12, rfl⟩, s0, sB, ok, hO⟩ := h
  have few := ok.few
  refine ⟨_, rfl, by show 1 ≤ sizeLine; decide, fun l1 hl1 => ?_⟩
  have g1 : Same H (upd H l1 (.lst [j.x])) := same_upd hl1 _
  have v1 : (upd H l1 (.lst [j.x])) l1 = some (.lst [j.x]) := upd_same
  generalize upd H l1 (.lst [j.x]) = H1 at *
  refine ⟨_, rfl, _, rfl, by show 1 ≤ sizeLine; decide, fun l2 hl2 => ?_⟩
  have g2 : Same H1 (upd H1 l2 (.lst [j.x])) := same_upd hl2 _
  have v2 : (upd H1 l2 (.lst [j.x])) l2 = some (.lst [j.x]) := upd_same
  generalize upd H1 l2 (.lst [j.x]) = H2 at *
  have sB2 := ((sB.trans s0).trans g1).trans g2
  refine ⟨j.g.lp, l2, _, _, rfl, rfl, sB2 _ _ ok.hl, v2, Nat.le_of_lt (small1000 (by simp; omega)), fun l3 hl3 => ?_⟩
  have g3 : Same H2 (upd H2 l3 (.lst (j.g.ys ++ [j.x]))) := same_upd hl3 _
  have v3 : (upd H2 l3 (.lst (j.g.ys ++ [j.x]))) l3 = some (.lst (j.g.ys ++ [j.x])) := upd_same
  generalize upd H2 l3 (.lst (j.g.ys ++ [j.x])) = H3 at *
  have sB3 := sB2.trans g3
  refine ⟨_, rfl, j.g.lp, _, rfl, sB3 _ _ ok.hl, fun t4 ht4 => ?_⟩
  have g4 : Same H3 (upd H3 t4 (.tup j.g.ys)) := same_upd ht4 _
  have v4 : (upd H3 t4 (.tup j.g.ys)) t4 = some (.tup j.g.ys) := upd_same
  generalize upd H3 t4 (.tup j.g.ys) = H4 at *
  refine ⟨_, rfl, by show 2 ≤ sizeLine; decide, fun t5 ht5 => ?_⟩
  have g5 : Same H4 (upd H4 t5 (.tup [j.x, .non])) := same_upd ht5 _
  have v5 : (upd H4 t5 (.tup [j.x, .non])) t5 = some (.tup [j.x, .non]) := upd_same
  generalize upd H4 t5 (.tup [j.x, .non]) = H5 at *
  have s25 := (g3.trans g4).trans g5
  have s05 := (g1.trans g2).trans s25
  have sB5 := sB2.trans s25
  have hO5 := hO.same (s0.trans s05)
  have eY5 := ok.eY.imp (R' := PlV) (H' := H5) fun v x h => h.same sB5
  have hT5 : ∀ (i : Nat) y, j.g.ys[i]? = some y → PlCase K H5 (placesE j.g.es) y true := pl_true eY5 (fun x h => h) ok.pl
  have hN5 : ∀ y ∈ [V.non], PlCase K H5 (placesE j.g.es) y false := fun y hy => by
    rw [List.mem_singleton.mp hy]
    exact .other (.base .non) (kit_ty (by decide +kernel))
  refine catA_two v5 (g5 _ _ v4) (by simp) (by have := few; show _ ≤ sizeLine; exact Nat.le_of_lt (small1000 (by simp; omega))) fun H6 t6 g6 hq6 => ?_
  have hR6 : RefD K H6 (placesE j.g.es) (.ref t6) j.x := refD_at hq6 (fun i y hy => (hT5 i y hy).same g6) (hO5.1.same g6) fun y hy => (hN5 y hy).same g6
  have hR3 : RefD K H5 (placesE j.g.es) (.ref l3) j.x := refD_at (rest := []) (.inl ((g4.trans g5) _ _ v3)) hT5 hO5.1 fun y hy => by cases hy
  have hR1 : RefD K H5 (placesE j.g.es) (.ref l1) j.x := refD_at (ys := []) (rest := []) (.inl ((g2.trans s25) _ _ v1)) (fun i y hy => by simp at hy) hO5.1 fun y hy => by cases hy
  refine ⟨by show 3 ≤ sizeLine; decide, fun l7 hl7 => ?_⟩
  have g7 : Same H6 (upd H6 l7 (.lst [.ref l1, .ref l3, .ref t6])) := same_upd hl7 _
  have v7 : (upd H6 l7 (.lst [.ref l1, .ref l3, .ref t6])) l7 = some (.lst [.ref l1, .ref l3, .ref t6]) := upd_same
  generalize upd H6 l7 (.lst [.ref l1, .ref l3, .ref t6]) = H7 at *
  have s57 := g6.trans g7
  have all : ∀ y ∈ [V.ref l1, .ref l3, .ref t6], RefD K H7 (placesE j.g.es) y j.x := fun y hy => by
    simp only [List.mem_cons, List.not_mem_nil, or_false] at hy
    rcases hy with rfl | rfl | rfl
    · exact hR1.same s57
    · exact hR3.same s57
    · exact hR6.same g7
  have s07 := s05.trans s57
  have sB7 := (sB.trans s0).trans s07
  have hO7 := hO.same (s0.trans s07)
  refine ⟨l7, rfl, ⟨_, SqL.of v7⟩, for_list (K := K) (xs := [.ref l1, .ref l3, .ref t6]) (fun i σ G => (∃ j12 : Option V, σ = [Option.some (.ref a), Option.some (.ref j.g.vp), Option.some (.ref j.g.ap), Option.some (.ref j.g.lp), Option.some (.str j.nm), j.j5, j.j6, j.j7, j.j8, Option.some (.ref j.lo), Option.some j.x, Option.some (.int j.way), j12, j.j13, j.j14]) ∧ Same H7 G) ⟨⟨_, rfl⟩, Same.refl _⟩ (fun i σ G _ z => SqL.of (z.2 _ _ v7)) (fun i y σ G hy z => ?_) (fun σ G z => ?_)⟩
  · obtain ⟨⟨i12, rfl⟩, sG⟩ := z
    have hR := (all y (List.mem_of_getElem? hy)).same sG
    obtain ⟨_, r, hrep, pr⟩ := hO7.same sG
    refine ⟨_, rfl, _, rfl, _, rfl, j.g.ap, y, j.x, j.way, r, j.g.es, j.g.ins, [], rfl, lists_none, ok.ga.off (Same.off (sB7.trans sG)), ok.pok, hR, hrep, fun H' l sl nl hl' => ?_⟩
    refine ⟨_, rfl, j.x, r, rfl, hrep.same sl, by show 2 ≤ sizeLine; decide, fun l2 hl2 => ?_⟩
    have s6 : Same H' (upd H' l2 (.lst [.str r, .bl true])) := same_upd hl2 _
    refine ⟨twoR r, twoR r, .lst (SqL.of (s6 _ _ hl')) (.cons (.str _) (.cons (.bl _) .nil)), .lst (SqL.of upd_same) (.cons (.str _) (.cons (.bl _) .nil)), twoR_sh pr, twoR_sh pr, _, rfl, ?_⟩
    rw [twoR_self]
    exact iteF ⟨⟨_, rfl⟩, sG.trans (sl.trans s6)⟩
  · obtain ⟨⟨i12, rfl⟩, sG⟩ := z
    exact k _ _ ⟨⟨_, rfl⟩, (s0.trans s07).trans sG, sB, ok, hO⟩
def F7 (PR PC CD C : Addr) (a : Addr) (g : G79) (σ : St) (H : Hp) : Prop := ∃ nm, (∃ j5 j6 j7 j8 j9 j10 j11 j12 j13 j14 : Option V, σ = [Option.some (.ref a), Option.some (.ref g.vp), Option.some (.ref g.ap), Option.some (.ref g.lp), Option.some (.str nm), j5, j6, j7, j8, j9, j10, j11, j12, j13, j14]) ∧ Same g.B H ∧ g.Ok PR PC CD C
/-- each of the odd ones is refused either way -/
theorem b_refuse (hr : Room 25 (lawX P w K mg base f cdv A outer s H0 E).A) (hG : (lawX P w K mg base f cdv A outer s H0 E).A.guards = some []) (T : BltT mg) (U : BltU mg) (mr : mg "repr" = none) (DR : HasG P w K mg base "_law_refused" 25 ["program", "places", "way"] (spRefH K PR PC CD C)) :
    Stm (lawX P w K mg base f cdv A outer s H0 E) (bLaw.getD 6 noStmt) (F6 K PR PC CD C a) (F7 PR PC CD C a) := by
  obtain ⟨tI, pI, rI⟩ := b_inner (a := a) (f := f) (cdv := cdv) (A := A) (outer := outer) (s := s) (H0 := H0) (E := E) hr hG T mr DR
  refine ⟨_, ps_for PassesOwn.never rfl (pi_list (pv 9)) (pg_name (i := 10) scLaw.nd rfl (.inl rfl)) (pss_one (ps_for PassesOwn.never rfl (pi_range1 (by rfl) U.range (pa_cons pe_int pa_nil)) (pg_name (i := 11) scLaw.nd rfl (.inl rfl)) (pss_one pI))), fun g D0 σ H h k => ?_⟩
  obtain ⟨nm, lo, xs, ⟨j5, j6, j7, j8, j10, j11, j12, j13, j14, rfl⟩, sB, ok, ht, hlo, hO⟩ := h
  refine ⟨_, rfl, lo, rfl, ⟨_, SqL.of hlo⟩, for_list (K := K) (xs := xs) (fun i σ G => (∃ j10 j11 j12 : Option V, σ = [Option.some (.ref a), Option.some (.ref g.vp), Option.some (.ref g.ap), Option.some (.ref g.lp), Option.some (.str nm), j5, j6, j7, j8, Option.some (.ref lo), j10, j11, j12, j13, j14]) ∧ Same H G) ⟨⟨_, _, _, rfl⟩, Same.refl _⟩ (fun i σ G _ z => SqL.of (z.2 _ _ hlo)) (fun i x σ G hx z => ?_) (fun σ G z => ?_)⟩
  · obtain ⟨⟨i10, i11, i12, rfl⟩, sG⟩ := z
    have hOx := (hO x (List.mem_of_getElem? hx)).same sG
    refine ⟨2, rfl, by decide, by decide, for_range (lo := 0) (fun m σ G2 => (∃ j11 j12 : Option V, σ = [Option.some (.ref a), Option.some (.ref g.vp), Option.some (.ref g.ap), Option.some (.ref g.lp), Option.some (.str nm), j5, j6, j7, j8, Option.some (.ref lo), Option.some x, j11, j12, j13, j14]) ∧ Same G G2) ⟨⟨_, _, rfl⟩, Same.refl _⟩ (fun m σ G2 hm z => ?_) (fun σ G2 z => ?_)⟩
    · obtain ⟨⟨m11, m12, rfl⟩, s2⟩ := z
      refine rI ⟨g, nm, lo, j5, j6, j7, j8, j13, j14, x, 0 + (m : Int), G⟩ _ _ _ ⟨⟨_, rfl⟩, s2, sB.trans sG, ok, hOx⟩ fun σ3 G3 h3 => ?_
      obtain ⟨⟨n12, rfl⟩, s3, _⟩ := h3
      exact ⟨⟨_, _, rfl⟩, s3⟩
    · obtain ⟨⟨m11, m12, rfl⟩, s2⟩ := z
      exact ⟨⟨_, _, _, rfl⟩, sG.trans s2⟩
  · obtain ⟨⟨i10, i11, i12, rfl⟩, sG⟩ := z
    exact k _ _ ⟨nm, ⟨_, _, _, _, _, _, _, _, _, _, rfl⟩, sB.trans sG, ok⟩
/-- what is no list or tuple -/
theorem b_norow (hr : Room 25 (lawX P w K mg base f cdv A outer s H0 E).A) (hG : (lawX P w K mg base f cdv A outer s H0 E).A.guards = some []) (DR : HasG P w K mg base "_law_refused" 25 ["program", "places", "way"] (spRefH K PR PC CD C)) :
    Stm (lawX P w K mg base f cdv A outer s H0 E) (bLaw.getD 7 noStmt) (F7 PR PC CD C a) (F7 PR PC CD C a) := by
  obtain ⟨f1, fd1, m1, k1, b1, G1⟩ := DR
  refine ⟨_, ps_for PassesOwn.never rfl (pi_list (pe_lst (pa_cons pe_non (pa_cons pe_int (pa_cons (pv 4) (pa_cons pe_dnewK (pa_cons pe_bl pa_nil))))))) (pg_name (i := 10) scLaw.nd rfl (.inl rfl)) (pss_one (ps_if (PW.pt (pw_or (pt_cmpR (op_neD hr.units) (pe_callG (E := E0) G1 hG hr rfl m1 k1 b1 (pa_cons (pv 2) (pa_cons (pv 10) (pa_cons pe_int pa_nil))))
    (pe_lst (pa_cons pe_str (pa_cons pe_bl pa_nil))) (nomark _)) (pw_or1 (pt_cmpR (op_neD hr.units) (pe_callG (E := E0) G1 hG hr rfl m1 k1 b1 (pa_cons (pv 2) (pa_cons (pv 10) (pa_cons pe_int pa_nil))))
    (pe_lst (pa_cons pe_str (pa_cons pe_bl pa_nil))) (nomark _))))) (pss_one (ps_ret pe_bl)) pss_nil)), fun g D0 σ H h k => ?_⟩
  obtain ⟨nm, ⟨j5, j6, j7, j8, j9, j10, j11, j12, j13, j14, rfl⟩, sB, ok⟩ := h
  refine ⟨_, rfl, ?_⟩
  intro d hd
  have g3 : Same H (upd H d (.dK [])) := same_upd hd _
  have v3 : (upd H d (.dK [])) d = some (.dK []) := upd_same
  generalize upd H d (.dK []) = H1 at *
  refine ⟨by show 5 ≤ sizeLine; decide, fun L hL => ?_⟩
  have g4 : Same H1 (upd H1 L (.lst [.non, .int 5, .str nm, .ref d, .bl true])) := same_upd hL _
  have v4 : (upd H1 L (.lst [.non, .int 5, .str nm, .ref d, .bl true])) L = some (.lst [.non, .int 5, .str nm, .ref d, .bl true]) := upd_same
  generalize upd H1 L (.lst [.non, .int 5, .str nm, .ref d, .bl true]) = H2 at *
  have s02 := g3.trans g4
  have w3 := g4 _ _ v3
  have all : ∀ G, Same H2 G → ∀ x ∈ [V.non, .int 5, .str nm, .ref d, .bl true], RefD K G (placesE g.es) x .non := fun G sG x hx => by
    simp only [List.mem_cons, List.not_mem_nil, or_false] at hx
    rcases hx with rfl | rfl | rfl | rfl | rfl
    · exact .inr ⟨rfl, _, .base .non, by kernel_rfl⟩
    · exact .inr ⟨rfl, _, .base (.int _), by kernel_rfl⟩
    · exact .inr ⟨rfl, _, .base (.str _), by kernel_rfl⟩
    · exact .inr ⟨rfl, _, .base (.dK (sG _ _ w3)), by kernel_rfl⟩
    · exact .inr ⟨rfl, _, .base (.bl _), by kernel_rfl⟩
  have pN : Plain "None" := plain_all (by decide +kernel)
  have sB2 := sB.trans s02
  refine ⟨L, rfl, ⟨_, SqL.of v4⟩, for_list (K := K) (xs := [.non, .int 5, .str nm, .ref d, .bl true]) (fun i σ G => (∃ j10 : Option V, σ = [Option.some (.ref a), Option.some (.ref g.vp), Option.some (.ref g.ap), Option.some (.ref g.lp), Option.some (.str nm), j5, j6, j7, j8, j9, j10, j11, j12, j13, j14]) ∧ Same H2 G) ⟨⟨_, rfl⟩, Same.refl _⟩ (fun i σ G _ z => SqL.of (z.2 _ _ v4)) (fun i x σ G hx z => ?_) (fun σ G z => ?_)⟩
  · obtain ⟨⟨j10, rfl⟩, sG⟩ := z
    have hR := all G sG x (List.mem_of_getElem? hx)
    refine ⟨_, rfl, _, rfl, g.ap, x, .non, 0, "None", g.es, g.ins, [], rfl, lists_none, ok.ga.off (Same.off (sB2.trans sG)), ok.pok, hR, .non, fun H' l sl nl hl' => ?_⟩
    refine ⟨by show 2 ≤ sizeLine; decide, fun l2 hl2 => ?_⟩
    have s6 : Same H' (upd H' l2 (.lst [.str "None", .bl true])) := same_upd hl2 _
    refine ⟨twoR "None", twoR "None", .lst (SqL.of (s6 _ _ hl')) (.cons (.str _) (.cons (.bl _) .nil)), .lst (SqL.of upd_same) (.cons (.str _) (.cons (.bl _) .nil)), twoR_sh pN, twoR_sh pN, _, rfl, ?_⟩
    rw [twoR_self]
    refine iteF ?_
    have s3 := sG.trans (sl.trans s6)
    generalize upd H' l2 (.lst [.str "None", .bl true]) = G3 at *
    have hR3 := all G3 s3 x (List.mem_of_getElem? hx)
    refine ⟨_, rfl, _, rfl, g.ap, x, .non, 1, "None", g.es, g.ins, [], rfl, lists_none, ok.ga.off (Same.off (sB2.trans s3)), ok.pok, hR3, .non, fun H4 l4 sl4 nl4 hl4 => ?_⟩
    refine ⟨by show 2 ≤ sizeLine; decide, fun l5 hl5 => ?_⟩
    have s7 : Same H4 (upd H4 l5 (.lst [.str "None", .bl true])) := same_upd hl5 _
    refine ⟨twoR "None", twoR "None", .lst (SqL.of (s7 _ _ hl4)) (.cons (.str _) (.cons (.bl _) .nil)), .lst (SqL.of upd_same) (.cons (.str _) (.cons (.bl _) .nil)), twoR_sh pN, twoR_sh pN, _, rfl, ?_⟩
    rw [twoR_self]
    exact iteF ⟨⟨_, rfl⟩, s3.trans (sl4.trans s7)⟩
  · obtain ⟨⟨j10, rfl⟩, sG⟩ := z
    exact k _ _ ⟨nm, ⟨_, _, _, _, _, _, _, _, _, _, rfl⟩, sB2.trans sG, ok⟩
structure Law79 (P : Program) (w : World) (K : PySem.W.Frag) (mg : Str → Option Value) (base : Heap) (PR PC CD C : Addr) : Prop where
  T : BltT mg
  U : BltU mg
  mr : mg "repr" = none
  GT : ProgT K mg PR
  eq : HasEq P w K mg base PR 5 (spEqB (RProg PR PC CD C))
  pls : HasM P w K mg base PR "places" 1 ["self"] (spGPlaces PR)
  made : Has P w K mg base "_law_made" 22 ["plain"] (spMade PR PC CD C)
  names : Has P w K mg base "_law_names" 1 ["plain"] spLNames
  refused : HasG P w K mg base "_law_refused" 25 ["program", "places", "way"] (spRefH K PR PC CD C)
  pool : Has P w K mg base "_law_pool" 1 ["script", "k"] (spPool K)
  plain : Has P w K mg base "_law_plain" 6 ["pool", "many_processes", "many_deeds", "deep"] (spPlainG 2)
  places : Has P w K mg base "_law_places" 1 ["plain"] spLPlaces
theorem b_rest (hr : Room 25 (lawX P w K mg base f cdv A outer s H0 E).A) (hG : (lawX P w K mg base f cdv A outer s H0 E).A.guards = some []) (L : Law79 P w K mg base PR PC CD C) :
    ∃ t, PSs (lawX P w K mg base f cdv A outer s H0 E) (bLaw.drop 2) t ∧ ∀ (g : G79) D σ H, F2 PR PC CD C a g σ H → (∀ H', D.rt (.bl true) H') → t D σ H := by
  obtain ⟨t2, p2, r2⟩ := b_name (a := a) (PR := PR) (PC := PC) (CD := CD) (C := C) hr L.names
  obtain ⟨t3, p3, r3⟩ := b_whole (a := a) (PR := PR) (PC := PC) (CD := CD) (C := C) hr L.T L.U
  obtain ⟨t4, p4, r4⟩ := b_odd (P := P) (w := w) (K := K) (mg := mg) (base := base) (a := a) (PR := PR) (PC := PC) (CD := CD) (C := C) (f := f) (cdv := cdv) (A := A) (outer := outer) (s := s) (H0 := H0) (E := E)
  obtain ⟨t5, p5, r5⟩ := b_odd2 (a := a) (PR := PR) (PC := PC) (CD := CD) (C := C) hr
  obtain ⟨t6, p6, r6⟩ := b_refuse (a := a) hr hG L.T L.U L.mr L.refused
  obtain ⟨t7, p7, r7⟩ := b_norow (a := a) hr hG L.refused
  obtain ⟨fe, fde, he, ie, be, Ge⟩ := L.eq
  obtain ⟨fp, fdp, hp, bp, Gp⟩ := L.pls
  obtain ⟨f1, fd1, m1, k1, b1, G1⟩ := L.made
  have q5 : Room 5 (lawX P w K mg base f cdv A outer s H0 E).A := hr.mono (by decide)
  have q1 : Room 1 (lawX P w K mg base f cdv A outer s H0 E).A := hr.mono (by decide)
  have q22 : Room 22 (lawX P w K mg base f cdv A outer s H0 E).A := hr.mono (by decide)
  refine ⟨_, pss_cons p2 (pss_cons p3 (pss_cons p4 (pss_cons p5 (pss_cons p6 (pss_cons p7 (pss_one (ps_ret (pe_and (pe_cmpR (op_eqOwn Ge he ie be pass0 q5) (pv 2) (pe_call G1 q22 rfl m1 k1 b1 .nil pass0 (pa_cons (pv 1) pa_nil)) (nomark _)) (pe_one (pe_cmpR (op_eqD hr.units) (pe_meth0 (pv 2) L.GT.cl hp Gp q1 bp .nil pass0) (pv 3) (nomark _))))))))))), fun g D σ H h k => ?_⟩
  refine r2 g _ σ H h fun σ H h => r3 g _ σ H h fun σ H h => r4 g _ σ H h fun σ H h => r5 g _ σ H h fun σ H h => r6 g _ σ H h fun σ H h => r7 g _ σ H h fun σ H h => ?_
  obtain ⟨nm, ⟨j5, j6, j7, j8, j9, j10, j11, j12, j13, j14, rfl⟩, sB, ok⟩ := h
  refine ⟨_, rfl, _, rfl, .ref g.vp, g.es, g.ins, [], rfl, ok.pv.same sB, ok.eok, ok.pok, fun H1 b s1 nb hT => ?_⟩
  refine prog_eq L.GT (ok.ga.off (Same.off (sB.trans s1))).now (hT [] lists_none H1 (SameOff.refl _ _)) ok.pi ?_
  refine ⟨_, rfl, iteT ?_⟩
  have hg := ok.ga.off (Same.off (sB.trans s1))
  obtain ⟨as, hF, _⟩ := hg.now
  obtain ⟨dx, lp, ln, lb, li, lv, lc, lq, vs, cs, ys, h1, _⟩ := id hF
  refine ⟨_, rfl, g.ap, dx, _, rfl, h1, gfs_no (by decide +kernel), g.ap, as, g.es, g.ins, rfl, hF, fun l ys' hl hE => ?_⟩
  have s3 : Same H1 (upd H1 l (.lst ys')) := same_upd hl _
  have s03 := (sB.trans s1).trans s3
  exact ⟨_, rfl, pls_eq upd_same (s03 _ _ ok.hl) (hE.imp fun v x h => h.same s3) (ok.eY.imp fun v x h => h.same s03) ok.pl (k _)⟩
theorem ok_law {f : Addr} {fd : FuncData} (F : Fun K "law" "law" sLaw f fd) (L : Law79 P w K mg base PR PC CD C) : FnG P w K mg base 26 f fd ["script"] (spLaw K) := by
  refine okG F scLaw (fun vs H Q E h => ?_) (fun cdv A outer s H0 vs Q E hG hr h => ?_)
  · obtain ⟨a, ns, rfl, _⟩ := h
    rfl
  obtain ⟨a, ns, rfl, hS, hlen, q⟩ := h
  obtain ⟨tT, pT, rT⟩ := b_rest (a := a) (f := f) (cdv := cdv) (A := _) (outer := outer) (s := s) (H0 := H0) (E := E) hr hG L
  obtain ⟨f1, fd1, m1, k1, b1, G1⟩ := L.made
  obtain ⟨f5, fd5, m5, k5, b5, G5⟩ := L.pool
  obtain ⟨f6, fd6, m6, k6, b6, G6⟩ := L.plain
  obtain ⟨f7, fd7, m7, k7, b7, G7⟩ := L.places
  have r1 : Room 1 (lawX P w K mg base f cdv A outer s H0 E).A := hr.mono (by decide)
  have r6 : Room 6 (lawX P w K mg base f cdv A outer s H0 E).A := hr.mono (by decide)
  have r22 : Room 22 (lawX P w K mg base f cdv A outer s H0 E).A := hr.mono (by decide)
  refine ⟨_, pss_cons (ps_set (i := 1) scLaw.nd rfl (.inl rfl) (pe_call G6 r6 rfl m6 k6 b6 .nil pass0 (pa_cons (pe_call G5 r1 rfl m5 k5 b5 .nil pass0 (pa_cons (pv 0) (pa_cons pe_int pa_nil))) (pa_cons pe_int (pa_cons pe_int (pa_cons pe_int pa_nil))))))
    (pss_cons (ps_asg (pe_tup (pa_cons (pe_call G1 r22 rfl m1 k1 b1 .nil pass0 (pa_cons (pv 1) pa_nil)) (pa_cons (pe_call G7 r1 rfl m7 k7 b7 .nil pass0 (pa_cons (pv 1) pa_nil)) pa_nil))) (pg_tup (by rfl) (pgs_cons (pg_name (i := 2) scLaw.nd rfl (.inl rfl)) (pgs_cons (pg_name (i := 3) scLaw.nd rfl (.inr rfl)) pgs_nil))))
      pT), ?_⟩
  refine ⟨_, rfl, a, ns, 0, rfl, hS, by omega, by omega, fun p x y hp x0 y0 y1 => ?_⟩
  have p2 : PoolAt (upd H0 p (.lst [.int x, .int y])) p := ⟨x, y, upd_same, x0, y0, y1⟩
  generalize upd H0 p (.lst [.int x, .int y]) = H2 at p2
  refine ⟨p, 4, 2, 2, rfl, p2, by decide, by decide, by decide, by decide, by decide, by decide, fun H3 vp ws kk0 dg es g3 nvp hP hGen hOnce => ?_⟩
  have eok := hGen.ok (by decide) (by decide)
  have pok := hGen.prog (by decide) hOnce
  have LP : Lists [p] H3 := pool_lists g3.2
  refine ⟨_, rfl, .ref vp, es, ws.take kk0, [p], rfl, hP, eok, pok, fun H4 ap s4 nap hT => ?_⟩
  have hP4 := hP.none.same s4
  refine ⟨_, rfl, .ref vp, es, ws.take kk0, [], rfl, hP4, by have := pok.p5; omega, fun e he => (eok e he).d4, fun H5 lp ys s5 nlp hys eY => ?_⟩
  refine ⟨by show 2 ≤ sizeLine; decide, fun t ht => ?_⟩
  have s6 : Same H5 (upd H5 t (.tup [.ref ap, .ref lp])) := same_upd ht _
  have v6 : (upd H5 t (.tup [.ref ap, .ref lp])) t = some (.tup [.ref ap, .ref lp]) := upd_same
  generalize upd H5 t (.tup [.ref ap, .ref lp]) = H6 at *
  refine ⟨t, _, rfl, SqT.of v6, rfl, _, _, rfl, _, _, rfl, rfl, ?_⟩
  have s46 := s5.trans s6
  have ok : G79.Ok PR PC CD C ⟨p, H6, vp, ap, lp, es, ws.take kk0, ys⟩ := ⟨hP4.same s46, fun G sG => hT [] lists_none G ((Same.off s46).trans sG), s6 _ _ hys, eY.imp fun v x h => h.same s6, pok, eok, hGen.title⟩
  exact rT _ _ _ _ ⟨⟨_, _, _, _, _, _, _, _, _, _, _, rfl⟩, Same.refl _, ok⟩ fun H' => q H'
end
end TS
namespace TS
open PySem PySem.Spec PyProof.Rows PySem.W PySem.Calls L2
/-- the built-in base of an own error -/
structure BaseF (B newId initId : String) (bmB : List Value) : Prop where
  NF : ∃ (Bn iN : String) (bmN : List Value), ExcBaseFacts Bn newId iN bmN ∧ bmB.contains (.type Bn) = true
  noA : bmB.contains (.type "AttributeError") = false
  noN : bmB.contains (.type "NameError") = false
  IF : IniF B initId
  pass : ∀ self : Value, refuseLoop self "__setattr__" bmB = pure ()
  obj : bmB.contains (.type "object") = true
abbrev valMro : List Value := [.type "ValueError", .type "Exception", .type "BaseException", .type "object"]
abbrev ovfMro : List Value := [.type "OverflowError", .type "ArithmeticError", .type "Exception", .type "BaseException", .type "object"]
abbrev runMro : List Value := [.type "RuntimeError", .type "Exception", .type "BaseException", .type "object"]
theorem valBase : BaseF "ValueError" "ValueError.__new__" "ValueError.__init__" valMro := ⟨⟨_, _, _, F.excBase_ValueError, by decide +kernel⟩, by decide +kernel, by decide +kernel, .of F.excBase_ValueError.toExcCallFacts kxs_ValueError, F.store_ValueError.passes, by decide +kernel⟩
theorem ovfBase : BaseF "OverflowError" "OverflowError.__new__" "OverflowError.__init__" ovfMro := ⟨⟨_, _, _, F.excBase_OverflowError, by decide +kernel⟩, by decide +kernel, by decide +kernel, .of F.excBase_OverflowError.toExcCallFacts kxs_OverflowError, fun self => by kernel_rfl, by decide +kernel⟩
theorem runBase : BaseF "RuntimeError" "RuntimeError.__new__" "RuntimeError.__init__" runMro := ⟨⟨_, _, _, F.excBase_RuntimeError, by decide +kernel⟩, by decide +kernel, by decide +kernel, .of F.excBase_RuntimeError.toExcCallFacts kxs_RuntimeError, fun self => by kernel_rfl, by decide +kernel⟩
/-- the names in such an __init__ -/
abbrev iniNames (arg : Str) : List (Str × NameKind) := [("self", .local), (arg, .local), ("__class__", .free), ("super", .globalImplicit)]
abbrev iniArgs (arg : Str) (q1 q2 : Pos) : Arguments := { posonlyargs := [], args := [{ arg := "self", annotation := none, pos := q1 }, { arg := arg, annotation := none, pos := q2 }], vararg := none, kwonlyargs := [], kw_defaults := [], kwarg := none, defaults := [] }
abbrev iniBody (arg msg : Str) (kk : Nat) (p0 p1 p2 p3 p4 p5 p6 p7 p8 p9 : Pos) : List Stmt := [.Expr (supX msg kk p0 p1 p2 p3 p4) p5, .Assign [.Attribute (.Name "self" p6) arg p7] (.Name arg p8) p9]
/-- an attribute's name that is none of the others -/
def argOk (arg : Str) : Bool := decide (arg ≠ "self") && decide (arg ≠ "super") && decide (arg ≠ "__class__") && !(arg == ("__debug__" : Str))
theorem ini_names {arg : Str} (h : argOk arg = true) : (iniNames arg).lookup ("super" : Str) = some .globalImplicit ∧ (iniNames arg).lookup ("__class__" : Str) = some .free ∧ (iniNames arg).lookup ("self" : Str) = some .local ∧ (iniNames arg).lookup arg = some .local ∧ (∀ x ∈ iniNames arg, x.2 ≠ .cell) ∧ arg ≠ "self" ∧ (arg == ("__debug__" : Str)) = false := by
  unfold argOk at h
  simp only [Bool.and_eq_true, decide_eq_true_eq, Bool.not_eq_true'] at h
  obtain ⟨⟨⟨h1, h2⟩, h3⟩, h4⟩ := h
  have n1 : (("super" : Str) == arg) = false := by simpa using fun z : ("super" : Str) = arg => h2 z.symm
  have n2 : (("__class__" : Str) == arg) = false := by simpa using fun z : ("__class__" : Str) = arg => h3 z.symm
  have n3 : (arg == ("self" : Str)) = false := by simpa using h1
  have m1 : (("super" : Str) == "self") = false := by decide +kernel
  have m2 : (("super" : Str) == "__class__") = false := by decide +kernel
  have m3 : (("__class__" : Str) == "self") = false := by decide +kernel
  refine ⟨?_, ?_, ?_, ?_, ?_, h1, h4⟩
  · simp [List.lookup, n1, m1, m2]
  · simp [List.lookup, n2, m3]
  · simp [List.lookup]
  · simp [List.lookup, n3]
  · intro x hx
    simp only [List.mem_cons, List.not_mem_nil, or_false] at hx
    rcases hx with rfl | rfl | rfl | rfl <;> simp
theorem errC_mk {Goal : Prop} {P : Program} {w : World} {K : Frag} {h : Heap} {mg : Str → Option Value} {x arg qual msg file : Str} {C fI cc cda : Addr} {B newId initId : String} {bmB : List Value}
    {nm qn : Str} {N : Addr} {bs bm sub : List Value} {sn : List Str} {ab : Bool} {col : Option Bool} {dd : Option Addr} {k0 k1 k2 k3 k5 : Option Value}
    {q1 q2 p0 p1 p2 p3 p4 p5 p6 p7 p8 p9 : Pos} {kk : Nat} {doc pm ct oc : Value} {an od : Option Addr} {osl : Array (Option Value)} {ccl cl : Value} {cdd cld : Option Addr} {cvs : Array Value} {ccs csl : Array (Option Value)} {tf : Tok}
    (X : K.In h) (G : h.Ns mainGlobals mg) (FB : BaseF B newId initId bmB) (ao : argOk arg = true) (hfile : ((P.main.file : Str) == file) = true) (htop : (P.main.scope.names.lookup ("super" : Str)).isSome = false)
    (hn : specialIn K (.builtin "object.__class__") "__get__" = some (some (.builtin "getset_descriptor.__get__"))) (htk : takesIn K (.builtin "object.__class__") = some true) (ho : nsIn K cStatics "thirdparty.any" = some none) (su : nsIn K mainGlobals "super" = some none)
    (aC : nsIn K mainGlobals x = some (some (.ref C)))
    (xL : K.lookup C = some (excClassObj nm qn C N bs bm true sn sub ab col dd k0 k1 k2 k3 k5 newId)) (xT : excTail bmB bm = true)
    (sa : findIn K (.ref C) "__setattr__" = some (some (.builtin "object.__setattr__"))) (exC : subIn K (.ref C) (.type "BaseException") = some true) (tyC : typeIn K (.ref C) = some (.type "type")) (kC : keepIn K (.ref C) = true)
    (ga : findIn K (.ref C) "__getattribute__" = some (some (.builtin "BaseException.__getattribute__"))) (gg : findIn K (.ref C) "__getattr__" = some none) (hd : hasDictIn K C = true) (hc : isClsIn K C = true)
    (ha : findIn K (.ref C) "__class__" = some (some (.builtin "object.__class__"))) (mo : mroIn K C (.type "object") = some true) (no : findIn K (.ref C) arg = some none)
    (iC : findIn K (.ref C) "__init__" = some (some (.ref fI))) (tI : typeIn K (.ref fI) = some (.type "function"))
    (lk : K.lookup fI = some ⟨oc, od, .func (ksFn "__init__" qual (iniArgs arg q1 q2) (iniBody arg msg kk p0 p1 p2 p3 p4 p5 p6 p7 p8 p9) (fscope (iniNames arg)) .none .none doc pm an (.ref cda) ct cc), osl⟩)
    (lc : K.lookup cda = some ⟨ccl, cdd, .fields cvs, ccs⟩) (fl : cvs[2]? = some (.str file tf)) (le : K.lookup cc = some ⟨cl, cld, .cell (some (.ref C)), csl⟩) (ms : mroIn K C (.ref C) = some true) (cd : codeIn K (.ref cda) qual = true)
    (si : ks_superIn K C C "__init__" = some (some (.builtin initId))) (sB : subIn K (.ref C) (.type B) = some true) (SO : SupOk msg kk p0 p1 p2 p3 p4)
    (pb : ∀ a b : Value, bindArgs (ksFn "__init__" qual (iniArgs arg q1 q2) (iniBody arg msg kk p0 p1 p2 p3 p4 p5 p6 p7 p8 p9) (fscope (iniNames arg)) .none .none doc pm an (.ref cda) ct cc) ⟨[a, b], []⟩ = pure (((["self", arg] : List Str)).zip [a, b]))
    (k : ((∀ base, ErrC P w K mg base x arg C) ∧ IsX K C) → Goal) : Goal := by
  have T : ErrK K C B newId initId bmB := ⟨FB.NF, FB.noA, FB.noN, FB.IF, FB.pass, FB.obj, ⟨nm, qn, N, bs, bm, sn, sub, ab, col, dd, k0, k1, k2, k3, k5, xL, xT⟩, sa, exC, tyC, kC⟩
  have Z : IniTxt K C cc cda qual file B initId := ⟨⟨ccl, cdd, cvs, ccs, tf, lc, fl⟩, ⟨cl, cld, csl, le⟩, ms, cd, ho, si, sB⟩
  have I : IsX K C := ⟨⟨ga, gg, exC, hd⟩, hc, ha, hn, htk, mo⟩
  obtain ⟨n1, n2, n3, n4, n5, n6, n7⟩ := ini_names ao
  exact k ⟨fun base => ⟨⟨B, newId, initId, bmB, fI, _, T, iC, tI, fn_ini (k := 0) T Z SO lk hfile htop (mg_none_of X G su) no rfl rfl n1 n2 n3 n4 n5 n6 n7, Binds.all fun us hl => match us, hl with | [_, _], _ => pb _ _⟩, mg_of X G aC, I.x, no⟩, I⟩
theorem ao_value : argOk "value" = true := by decide +kernel
theorem ao_who : argOk "who" = true := by decide +kernel
theorem ao_most : argOk "most" = true := by decide +kernel
theorem ao_index : argOk "index" = true := by decide +kernel
end TS
namespace TS
open PySem PySem.W L2
theorem all_mk {l : OpenLaw} {w : World} {K : Frag} {h : Heap} {mg : Str → Option Value} {fa : Addr} {f_num : Addr} {od_num an_num : Option Addr} {sl_num : Array (Option Value)} {oc_num kV_num dc_num pm_num cd_num ct_num : Value} {f_isindex : Addr} {od_isindex an_isindex : Option Addr} {sl_isindex : Array (Option Value)} {oc_isindex kV_isindex dc_isindex pm_isindex cd_isindex ct_isindex : Value} {f_isword : Addr} {od_isword an_isword : Option Addr} {sl_isword : Array (Option Value)} {oc_isword kV_isword dc_isword pm_isword cd_isword ct_isword : Value} {f_isrow : Addr} {od_isrow an_isrow : Option Addr} {sl_isrow : Array (Option Value)} {oc_isrow kV_isrow dc_isrow pm_isrow cd_isrow ct_isrow : Value} {f_short : Addr} {od_short an_short : Option Addr} {sl_short : Array (Option Value)} {oc_short kV_short dc_short pm_short cd_short ct_short : Value} {f_unlike : Addr} {od_unlike an_unlike : Option Addr} {sl_unlike : Array (Option Value)} {oc_unlike kV_unlike dc_unlike pm_unlike cd_unlike ct_unlike : Value} {f_unlikew : Addr} {od_unlikew an_unlikew : Option Addr} {sl_unlikew : Array (Option Value)} {oc_unlikew kV_unlikew dc_unlikew pm_unlikew cd_unlikew ct_unlikew : Value} {f_asc : Addr} {od_asc an_asc : Option Addr} {sl_asc : Array (Option Value)} {oc_asc kV_asc dc_asc pm_asc cd_asc ct_asc : Value} {f_word : Addr} {od_word an_word : Option Addr} {sl_word : Array (Option Value)} {oc_word kV_word dc_word pm_word cd_word ct_word : Value} {f_choice : Addr} {od_choice an_choice : Option Addr} {sl_choice : Array (Option Value)} {oc_choice kV_choice dc_choice pm_choice cd_choice ct_choice : Value} {f_tree : Addr} {od_tree an_tree : Option Addr} {sl_tree : Array (Option Value)} {oc_tree kV_tree dc_tree pm_tree cd_tree ct_tree : Value} {f_ttext : Addr} {od_ttext an_ttext : Option Addr} {sl_ttext : Array (Option Value)} {oc_ttext kV_ttext dc_ttext pm_ttext cd_ttext ct_ttext : Value} {f_treeof : Addr} {od_treeof an_treeof : Option Addr} {sl_treeof : Array (Option Value)} {oc_treeof kV_treeof dc_treeof pm_treeof cd_treeof ct_treeof : Value} {f_need : Addr} {od_need an_need : Option Addr} {sl_need : Array (Option Value)} {oc_need kV_need dc_need pm_need cd_need ct_need : Value} {f_text : Addr} {od_text an_text : Option Addr} {sl_text : Array (Option Value)} {oc_text kV_text dc_text pm_text cd_text ct_text : Value} {f_depth : Addr} {od_depth an_depth : Option Addr} {sl_depth : Array (Option Value)} {oc_depth kV_depth dc_depth pm_depth cd_depth ct_depth : Value} {f_kind : Addr} {od_kind an_kind : Option Addr} {sl_kind : Array (Option Value)} {oc_kind kV_kind dc_kind pm_kind cd_kind ct_kind : Value} {f_leaves : Addr} {od_leaves an_leaves : Option Addr} {sl_leaves : Array (Option Value)} {oc_leaves kV_leaves dc_leaves pm_leaves cd_leaves ct_leaves : Value} {f_deedof : Addr} {od_deedof an_deedof : Option Addr} {sl_deedof : Array (Option Value)} {oc_deedof kV_deedof dc_deedof pm_deedof cd_deedof ct_deedof : Value} {f_deedsof : Addr} {od_deedsof an_deedsof : Option Addr} {sl_deedsof : Array (Option Value)} {oc_deedsof kV_deedsof dc_deedsof pm_deedsof cd_deedsof ct_deedsof : Value} {f_arep : Addr} {od_arep an_arep : Option Addr} {sl_arep : Array (Option Value)} {oc_arep kV_arep dc_arep pm_arep cd_arep ct_arep : Value} {f_arei : Addr} {od_arei an_arei : Option Addr} {sl_arei : Array (Option Value)} {oc_arei kV_arei dc_arei pm_arei cd_arei ct_arei : Value} {f_varsof : Addr} {od_varsof an_varsof : Option Addr} {sl_varsof : Array (Option Value)} {oc_varsof kV_varsof dc_varsof pm_varsof cd_varsof ct_varsof : Value} {f_consof : Addr} {od_consof an_consof : Option Addr} {sl_consof : Array (Option Value)} {oc_consof kV_consof dc_consof pm_consof cd_consof ct_consof : Value} {f_placesof : Addr} {od_placesof an_placesof : Option Addr} {sl_placesof : Array (Option Value)} {oc_placesof kV_placesof dc_placesof pm_placesof cd_placesof ct_placesof : Value} {f_wrong : Addr} {od_wrong an_wrong : Option Addr} {sl_wrong : Array (Option Value)} {oc_wrong kV_wrong dc_wrong pm_wrong cd_wrong ct_wrong : Value} {f_isplace : Addr} {od_isplace an_isplace : Option Addr} {sl_isplace : Array (Option Value)} {oc_isplace kV_isplace dc_isplace pm_isplace cd_isplace ct_isplace : Value} {f_withd : Addr} {od_withd an_withd : Option Addr} {sl_withd : Array (Option Value)} {oc_withd kV_withd dc_withd pm_withd cd_withd ct_withd : Value} {f_pool : Addr} {od_pool an_pool : Option Addr} {sl_pool : Array (Option Value)} {oc_pool kV_pool dc_pool pm_pool cd_pool ct_pool : Value} {f_take : Addr} {od_take an_take : Option Addr} {sl_take : Array (Option Value)} {oc_take kV_take dc_take pm_take cd_take ct_take : Value} {f_one : Addr} {od_one an_one : Option Addr} {sl_one : Array (Option Value)} {oc_one kV_one dc_one pm_one cd_one ct_one : Value} {f_turned : Addr} {od_turned an_turned : Option Addr} {sl_turned : Array (Option Value)} {oc_turned kV_turned dc_turned pm_turned cd_turned ct_turned : Value} {f_words : Addr} {od_words an_words : Option Addr} {sl_words : Array (Option Value)} {oc_words kV_words dc_words pm_words cd_words ct_words : Value} {f_ltree : Addr} {od_ltree an_ltree : Option Addr} {sl_ltree : Array (Option Value)} {oc_ltree kV_ltree dc_ltree pm_ltree cd_ltree ct_ltree : Value} {f_ltext : Addr} {od_ltext an_ltext : Option Addr} {sl_ltext : Array (Option Value)} {oc_ltext kV_ltext dc_ltext pm_ltext cd_ltext ct_ltext : Value} {f_dtext : Addr} {od_dtext an_dtext : Option Addr} {sl_dtext : Array (Option Value)} {oc_dtext kV_dtext dc_dtext pm_dtext cd_dtext ct_dtext : Value} {f_drawn : Addr} {od_drawn an_drawn : Option Addr} {sl_drawn : Array (Option Value)} {oc_drawn kV_drawn dc_drawn pm_drawn cd_drawn ct_drawn : Value} {f_plain : Addr} {od_plain an_plain : Option Addr} {sl_plain : Array (Option Value)} {oc_plain kV_plain dc_plain pm_plain cd_plain ct_plain : Value} {f_less : Addr} {od_less an_less : Option Addr} {sl_less : Array (Option Value)} {oc_less kV_less dc_less pm_less cd_less ct_less : Value} {f_lnames : Addr} {od_lnames an_lnames : Option Addr} {sl_lnames : Array (Option Value)} {oc_lnames kV_lnames dc_lnames pm_lnames cd_lnames ct_lnames : Value} {f_madep : Addr} {od_madep an_madep : Option Addr} {sl_madep : Array (Option Value)} {oc_madep kV_madep dc_madep pm_madep cd_madep ct_madep : Value} {f_made : Addr} {od_made an_made : Option Addr} {sl_made : Array (Option Value)} {oc_made kV_made dc_made pm_made cd_made ct_made : Value} {f_lplaces : Addr} {od_lplaces an_lplaces : Option Addr} {sl_lplaces : Array (Option Value)} {oc_lplaces kV_lplaces dc_lplaces pm_lplaces cd_lplaces ct_lplaces : Value} {f_chkm : Addr} {od_chkm an_chkm : Option Addr} {sl_chkm : Array (Option Value)} {oc_chkm kV_chkm dc_chkm pm_chkm cd_chkm ct_chkm : Value} {f_refused : Addr} {od_refused an_refused : Option Addr} {sl_refused : Array (Option Value)} {oc_refused kV_refused dc_refused pm_refused cd_refused ct_refused : Value} {f_law : Addr} {od_law an_law : Option Addr} {sl_law : Array (Option Value)} {oc_law kV_law dc_law pm_law cd_law ct_law : Value} {f_sole D_sole : Addr} {od_sole an_sole : Option Addr} {sl_sole : Array (Option Value)} {oc_sole dc_sole pm_sole cd_sole ct_sole : Value} {t_sole_most : Tok} {f_helps D_helps : Addr} {od_helps an_helps : Option Addr} {sl_helps : Array (Option Value)} {oc_helps dc_helps pm_helps cd_helps ct_helps : Value} {t_helps_most : Tok} {f_tinit : Addr} {od_tinit an_tinit : Option Addr} {sl_tinit : Array (Option Value)} {oc_tinit kV_tinit dc_tinit pm_tinit cd_tinit ct_tinit : Value} {f_tstr : Addr} {od_tstr an_tstr : Option Addr} {sl_tstr : Array (Option Value)} {oc_tstr kV_tstr dc_tstr pm_tstr cd_tstr ct_tstr : Value} {f_tvars : Addr} {od_tvars an_tvars : Option Addr} {sl_tvars : Array (Option Value)} {oc_tvars kV_tvars dc_tvars pm_tvars cd_tvars ct_tvars : Value} {f_tcons : Addr} {od_tcons an_tcons : Option Addr} {sl_tcons : Array (Option Value)} {oc_tcons kV_tcons dc_tcons pm_tcons cd_tcons ct_tcons : Value} {f_deq : Addr} {od_deq an_deq : Option Addr} {sl_deq : Array (Option Value)} {oc_deq kV_deq dc_deq pm_deq cd_deq ct_deq : Value} {f_ddelay : Addr} {od_ddelay an_ddelay : Option Addr} {sl_ddelay : Array (Option Value)} {oc_ddelay kV_ddelay dc_ddelay pm_ddelay cd_ddelay ct_ddelay : Value} {f_pinit : Addr} {od_pinit an_pinit : Option Addr} {sl_pinit : Array (Option Value)} {oc_pinit kV_pinit dc_pinit pm_pinit cd_pinit ct_pinit : Value} {f_peq : Addr} {od_peq an_peq : Option Addr} {sl_peq : Array (Option Value)} {oc_peq kV_peq dc_peq pm_peq cd_peq ct_peq : Value} {f_pwaits : Addr} {od_pwaits an_pwaits : Option Addr} {sl_pwaits : Array (Option Value)} {oc_pwaits kV_pwaits dc_pwaits pm_pwaits cd_pwaits ct_pwaits : Value} {f_pdeeds : Addr} {od_pdeeds an_pdeeds : Option Addr} {sl_pdeeds : Array (Option Value)} {oc_pdeeds kV_pdeeds dc_pdeeds pm_pdeeds cd_pdeeds ct_pdeeds : Value} {f_preads : Addr} {od_preads an_preads : Option Addr} {sl_preads : Array (Option Value)} {oc_preads kV_preads dc_preads pm_preads cd_preads ct_preads : Value} {f_pwrites : Addr} {od_pwrites an_pwrites : Option Addr} {sl_pwrites : Array (Option Value)} {oc_pwrites kV_pwrites dc_pwrites pm_pwrites cd_pwrites ct_pwrites : Value} {f_pcons : Addr} {od_pcons an_pcons : Option Addr} {sl_pcons : Array (Option Value)} {oc_pcons kV_pcons dc_pcons pm_pcons cd_pcons ct_pcons : Value} {f_ginit : Addr} {od_ginit an_ginit : Option Addr} {sl_ginit : Array (Option Value)} {oc_ginit kV_ginit dc_ginit pm_ginit cd_ginit ct_ginit : Value} {f_geq : Addr} {od_geq an_geq : Option Addr} {sl_geq : Array (Option Value)} {oc_geq kV_geq dc_geq pm_geq cd_geq ct_geq : Value} {f_gplaces : Addr} {od_gplaces an_gplaces : Option Addr} {sl_gplaces : Array (Option Value)} {oc_gplaces kV_gplaces dc_gplaces pm_gplaces cd_gplaces ct_gplaces : Value} {f_gdelay : Addr} {od_gdelay an_gdelay : Option Addr} {sl_gdelay : Array (Option Value)} {oc_gdelay kV_gdelay dc_gdelay pm_gdelay cd_gdelay ct_gdelay : Value} {f_dvar p_dvar : Addr} {rest_dvar : List Value} {od_dvar an_dvar : Option Addr} {sl_dvar : Array (Option Value)} {oc_dvar kV_dvar dc_dvar pm_dvar cd_dvar ct_dvar : Value} {f_dterm p_dterm : Addr} {rest_dterm : List Value} {od_dterm an_dterm : Option Addr} {sl_dterm : Array (Option Value)} {oc_dterm kV_dterm dc_dterm pm_dterm cd_dterm ct_dterm : Value} {f_dlate p_dlate : Addr} {rest_dlate : List Value} {od_dlate an_dlate : Option Addr} {sl_dlate : Array (Option Value)} {oc_dlate kV_dlate dc_dlate pm_dlate cd_dlate ct_dlate : Value} {f_pname p_pname : Addr} {rest_pname : List Value} {od_pname an_pname : Option Addr} {sl_pname : Array (Option Value)} {oc_pname kV_pname dc_pname pm_pname cd_pname ct_pname : Value} {f_dinit D_dinit : Addr} {od_dinit an_dinit : Option Addr} {sl_dinit : Array (Option Value)} {oc_dinit dc_dinit pm_dinit cd_dinit ct_dinit : Value} {f_pdelay : Addr} {od_pdelay an_pdelay : Option Addr} {sl_pdelay : Array (Option Value)} {oc_pdelay kV_pdelay dc_pdelay pm_pdelay cd_pdelay ct_pdelay : Value} {f_dof p_dof : Addr} {rest_dof : List Value} {od_dof an_dof : Option Addr} {sl_dof : Array (Option Value)} {oc_dof kV_dof dc_dof pm_dof cd_dof ct_dof : Value} {t_LETTERS : Tok} {t_DIGITS : Tok} {t_PART_SIGNS : Tok} {t_MOST_LETTERS : Tok} {t_MOST_DEPTH : Tok} {t_MOST_CONSTANT : Tok} {t_AT_ONCE : Tok} {t_AT_END : Tok} {t_TURN : Tok} {t_MOST_WAITS : Tok} {t_MOST_DEEDS : Tok} {t_MOST_PROCESSES : Tok} {t_MOST_INPUTS : Tok} {t_MOST_VARIABLES : Tok} {t_MOST_CONSTANTS : Tok} {t_MOST_AT_ONCE : Tok} {C CD PC PR TE NP : Addr} (X : K.In h) (G : h.Ns mainGlobals mg) (hfa : mg "law" = some (.ref fa)) (ENP : (∀ base, ErrC l.prog w K mg base "NoPlace" "value" NP) ∧ IsX K NP)
    (aC : nsIn K mainGlobals "Term" = some (some (.ref C)))
    (pgC : plainGet K C Str.empty = true)
    (hdC : hasDictIn K C = true)
    (poC : plainOver K C = true)
    (saC : findIn K (.ref C) "__setattr__" = some (some (.builtin "object.__setattr__")))
    (mkC : makesIn K C = true)
    (kcC : keepIn K (.ref C) = true)
    (n1C : findIn K (.ref C) "_tree" = some none)
    (n2C : findIn K (.ref C) "_text" = some none)
    (n3C : findIn K (.ref C) "_depth" = some none)
    (n4C : findIn K (.ref C) "_kind" = some none)
    (n5C : findIn K (.ref C) "_leaves" = some none)
    (n6C : findIn K (.ref C) "_variables" = some none)
    (n7C : findIn K (.ref C) "_constants" = some none)
    (haC : findIn K (.ref C) "__class__" = some (some (.builtin "object.__class__")))
    (hmC : mroIn K C (.type "object") = some true)
    (kkC : kitOne K (.ref C) (.ref C) = some true)
    (aCD : nsIn K mainGlobals "Deed" = some (some (.ref CD)))
    (pgCD : plainGet K CD Str.empty = true)
    (hdCD : hasDictIn K CD = true)
    (poCD : plainOver K CD = true)
    (saCD : findIn K (.ref CD) "__setattr__" = some (some (.builtin "object.__setattr__")))
    (mkCD : makesIn K CD = true)
    (kcCD : keepIn K (.ref CD) = true)
    (n1CD : findIn K (.ref CD) "_variable" = some none)
    (n2CD : findIn K (.ref CD) "_term" = some none)
    (n3CD : findIn K (.ref CD) "_late" = some none)
    (n4CD : findIn K (.ref CD) "_text" = some none)
    (haCD : findIn K (.ref CD) "__class__" = some (some (.builtin "object.__class__")))
    (hmCD : mroIn K CD (.type "object") = some true)
    (kkCD : kitOne K (.ref CD) (.ref CD) = some true)
    (aPC : nsIn K mainGlobals "Process" = some (some (.ref PC)))
    (pgPC : plainGet K PC Str.empty = true)
    (hdPC : hasDictIn K PC = true)
    (poPC : plainOver K PC = true)
    (saPC : findIn K (.ref PC) "__setattr__" = some (some (.builtin "object.__setattr__")))
    (mkPC : makesIn K PC = true)
    (kcPC : keepIn K (.ref PC) = true)
    (n1PC : findIn K (.ref PC) "_name" = some none)
    (n2PC : findIn K (.ref PC) "_waits" = some none)
    (n3PC : findIn K (.ref PC) "_deeds" = some none)
    (n4PC : findIn K (.ref PC) "_reads" = some none)
    (n5PC : findIn K (.ref PC) "_writes" = some none)
    (n6PC : findIn K (.ref PC) "_constants" = some none)
    (haPC : findIn K (.ref PC) "__class__" = some (some (.builtin "object.__class__")))
    (hmPC : mroIn K PC (.type "object") = some true)
    (kkPC : kitOne K (.ref PC) (.ref PC) = some true)
    (aPR : nsIn K mainGlobals "Program" = some (some (.ref PR)))
    (pgPR : plainGet K PR Str.empty = true)
    (hdPR : hasDictIn K PR = true)
    (poPR : plainOver K PR = true)
    (saPR : findIn K (.ref PR) "__setattr__" = some (some (.builtin "object.__setattr__")))
    (mkPR : makesIn K PR = true)
    (kcPR : keepIn K (.ref PR) = true)
    (n1PR : findIn K (.ref PR) "_processes" = some none)
    (n2PR : findIn K (.ref PR) "_names" = some none)
    (n3PR : findIn K (.ref PR) "_by_name" = some none)
    (n4PR : findIn K (.ref PR) "_inputs" = some none)
    (n5PR : findIn K (.ref PR) "_variables" = some none)
    (n6PR : findIn K (.ref PR) "_constants" = some none)
    (n7PR : findIn K (.ref PR) "_places" = some none)
    (haPR : findIn K (.ref PR) "__class__" = some (some (.builtin "object.__class__")))
    (hmPR : mroIn K PR (.type "object") = some true)
    (kkPR : kitOne K (.ref PR) (.ref PR) = some true)
    (hn : specialIn K (.builtin "object.__class__") "__get__" = some (some (.builtin "getset_descriptor.__get__")))
    (htk : takesIn K (.builtin "object.__class__") = some true)
    (kStr : kitOne K (.type "str") (.ref C) = some false)
    (kInt : kitOne K (.type "int") (.ref C) = some false)
    (kTup : kitOne K (.type "tuple") (.ref C) = some false)
    (kCS : kitOne K (.ref C) (.type "str") = some false)
    (kStrD : kitOne K (.type "str") (.ref CD) = some false)
    (ex : exmOne K (.ref NP) (.ref NP) = some true)
    (aTE : nsIn K mainGlobals "TiedError" = some (some (.ref TE)))
    (kTE : kitOne K (.ref NP) (.ref TE) = some true)
    (a_num : nsIn K mainGlobals "is_number" = some (some (.ref f_num)))
    (l_num : K.lookup f_num = some ⟨oc_num, od_num, .func (fnOf "is_number" "is_number" (defArgs sIsNum) (defBody sIsNum) (defScope sIsNum) .none kV_num dc_num pm_num an_num cd_num ct_num), sl_num⟩)
    (c_num : codeIn K cd_num "is_number" = true)
    (k_num : keepIn K (.ref f_num) = true)
    (a_isindex : nsIn K mainGlobals "is_index" = some (some (.ref f_isindex)))
    (l_isindex : K.lookup f_isindex = some ⟨oc_isindex, od_isindex, .func (fnOf "is_index" "is_index" (defArgs sIsIndex) (defBody sIsIndex) (defScope sIsIndex) .none kV_isindex dc_isindex pm_isindex an_isindex cd_isindex ct_isindex), sl_isindex⟩)
    (c_isindex : codeIn K cd_isindex "is_index" = true)
    (k_isindex : keepIn K (.ref f_isindex) = true)
    (a_isword : nsIn K mainGlobals "is_word" = some (some (.ref f_isword)))
    (l_isword : K.lookup f_isword = some ⟨oc_isword, od_isword, .func (fnOf "is_word" "is_word" (defArgs sIsWord) (defBody sIsWord) (defScope sIsWord) .none kV_isword dc_isword pm_isword an_isword cd_isword ct_isword), sl_isword⟩)
    (c_isword : codeIn K cd_isword "is_word" = true)
    (k_isword : keepIn K (.ref f_isword) = true)
    (a_isrow : nsIn K mainGlobals "is_row" = some (some (.ref f_isrow)))
    (l_isrow : K.lookup f_isrow = some ⟨oc_isrow, od_isrow, .func (fnOf "is_row" "is_row" (defArgs sIsRow) (defBody sIsRow) (defScope sIsRow) .none kV_isrow dc_isrow pm_isrow an_isrow cd_isrow ct_isrow), sl_isrow⟩)
    (c_isrow : codeIn K cd_isrow "is_row" = true)
    (k_isrow : keepIn K (.ref f_isrow) = true)
    (a_short : nsIn K mainGlobals "is_short_row" = some (some (.ref f_short)))
    (l_short : K.lookup f_short = some ⟨oc_short, od_short, .func (fnOf "is_short_row" "is_short_row" (defArgs sShort) (defBody sShort) (defScope sShort) .none kV_short dc_short pm_short an_short cd_short ct_short), sl_short⟩)
    (c_short : codeIn K cd_short "is_short_row" = true)
    (k_short : keepIn K (.ref f_short) = true)
    (a_unlike : nsIn K mainGlobals "are_unlike" = some (some (.ref f_unlike)))
    (l_unlike : K.lookup f_unlike = some ⟨oc_unlike, od_unlike, .func (fnOf "are_unlike" "are_unlike" (defArgs sUnlike) (defBody sUnlike) (defScope sUnlike) .none kV_unlike dc_unlike pm_unlike an_unlike cd_unlike ct_unlike), sl_unlike⟩)
    (c_unlike : codeIn K cd_unlike "are_unlike" = true)
    (k_unlike : keepIn K (.ref f_unlike) = true)
    (a_unlikew : nsIn K mainGlobals "are_unlike_words" = some (some (.ref f_unlikew)))
    (l_unlikew : K.lookup f_unlikew = some ⟨oc_unlikew, od_unlikew, .func (fnOf "are_unlike_words" "are_unlike_words" (defArgs sUnlikeW) (defBody sUnlikeW) (defScope sUnlikeW) .none kV_unlikew dc_unlikew pm_unlikew an_unlikew cd_unlikew ct_unlikew), sl_unlikew⟩)
    (c_unlikew : codeIn K cd_unlikew "are_unlike_words" = true)
    (k_unlikew : keepIn K (.ref f_unlikew) = true)
    (a_asc : nsIn K mainGlobals "ascending" = some (some (.ref f_asc)))
    (l_asc : K.lookup f_asc = some ⟨oc_asc, od_asc, .func (fnOf "ascending" "ascending" (defArgs sAsc) (defBody sAsc) (defScope sAsc) .none kV_asc dc_asc pm_asc an_asc cd_asc ct_asc), sl_asc⟩)
    (c_asc : codeIn K cd_asc "ascending" = true)
    (k_asc : keepIn K (.ref f_asc) = true)
    (a_word : nsIn K mainGlobals "_word_end" = some (some (.ref f_word)))
    (l_word : K.lookup f_word = some ⟨oc_word, od_word, .func (fnOf "_word_end" "_word_end" (defArgs sWord) (defBody sWord) (defScope sWord) .none kV_word dc_word pm_word an_word cd_word ct_word), sl_word⟩)
    (c_word : codeIn K cd_word "_word_end" = true)
    (k_word : keepIn K (.ref f_word) = true)
    (a_choice : nsIn K mainGlobals "_choice_at" = some (some (.ref f_choice)))
    (l_choice : K.lookup f_choice = some ⟨oc_choice, od_choice, .func (fnOf "_choice_at" "_choice_at" (defArgs sChoice) (defBody sChoice) (defScope sChoice) .none kV_choice dc_choice pm_choice an_choice cd_choice ct_choice), sl_choice⟩)
    (c_choice : codeIn K cd_choice "_choice_at" = true)
    (k_choice : keepIn K (.ref f_choice) = true)
    (a_tree : nsIn K mainGlobals "_tree_at" = some (some (.ref f_tree)))
    (l_tree : K.lookup f_tree = some ⟨oc_tree, od_tree, .func (fnOf "_tree_at" "_tree_at" (defArgs sTree) (defBody sTree) (defScope sTree) .none kV_tree dc_tree pm_tree an_tree cd_tree ct_tree), sl_tree⟩)
    (c_tree : codeIn K cd_tree "_tree_at" = true)
    (k_tree : keepIn K (.ref f_tree) = true)
    (a_ttext : nsIn K mainGlobals "_tree_of_text" = some (some (.ref f_ttext)))
    (l_ttext : K.lookup f_ttext = some ⟨oc_ttext, od_ttext, .func (fnOf "_tree_of_text" "_tree_of_text" (defArgs sTreeText) (defBody sTreeText) (defScope sTreeText) .none kV_ttext dc_ttext pm_ttext an_ttext cd_ttext ct_ttext), sl_ttext⟩)
    (c_ttext : codeIn K cd_ttext "_tree_of_text" = true)
    (k_ttext : keepIn K (.ref f_ttext) = true)
    (a_treeof : nsIn K mainGlobals "_tree_of" = some (some (.ref f_treeof)))
    (l_treeof : K.lookup f_treeof = some ⟨oc_treeof, od_treeof, .func (fnOf "_tree_of" "_tree_of" (defArgs sTreeOf) (defBody sTreeOf) (defScope sTreeOf) .none kV_treeof dc_treeof pm_treeof an_treeof cd_treeof ct_treeof), sl_treeof⟩)
    (c_treeof : codeIn K cd_treeof "_tree_of" = true)
    (k_treeof : keepIn K (.ref f_treeof) = true)
    (a_need : nsIn K mainGlobals "_needed_tree" = some (some (.ref f_need)))
    (l_need : K.lookup f_need = some ⟨oc_need, od_need, .func (fnOf "_needed_tree" "_needed_tree" (defArgs sNeed) (defBody sNeed) (defScope sNeed) .none kV_need dc_need pm_need an_need cd_need ct_need), sl_need⟩)
    (c_need : codeIn K cd_need "_needed_tree" = true)
    (k_need : keepIn K (.ref f_need) = true)
    (a_text : nsIn K mainGlobals "_text_of" = some (some (.ref f_text)))
    (l_text : K.lookup f_text = some ⟨oc_text, od_text, .func (fnOf "_text_of" "_text_of" (defArgs sText) (defBody sText) (defScope sText) .none kV_text dc_text pm_text an_text cd_text ct_text), sl_text⟩)
    (c_text : codeIn K cd_text "_text_of" = true)
    (k_text : keepIn K (.ref f_text) = true)
    (a_depth : nsIn K mainGlobals "_depth_of" = some (some (.ref f_depth)))
    (l_depth : K.lookup f_depth = some ⟨oc_depth, od_depth, .func (fnOf "_depth_of" "_depth_of" (defArgs sDepth) (defBody sDepth) (defScope sDepth) .none kV_depth dc_depth pm_depth an_depth cd_depth ct_depth), sl_depth⟩)
    (c_depth : codeIn K cd_depth "_depth_of" = true)
    (k_depth : keepIn K (.ref f_depth) = true)
    (a_kind : nsIn K mainGlobals "_kind_of" = some (some (.ref f_kind)))
    (l_kind : K.lookup f_kind = some ⟨oc_kind, od_kind, .func (fnOf "_kind_of" "_kind_of" (defArgs sKind) (defBody sKind) (defScope sKind) .none kV_kind dc_kind pm_kind an_kind cd_kind ct_kind), sl_kind⟩)
    (c_kind : codeIn K cd_kind "_kind_of" = true)
    (k_kind : keepIn K (.ref f_kind) = true)
    (a_leaves : nsIn K mainGlobals "_leaves_of" = some (some (.ref f_leaves)))
    (l_leaves : K.lookup f_leaves = some ⟨oc_leaves, od_leaves, .func (fnOf "_leaves_of" "_leaves_of" (defArgs sLeaves) (defBody sLeaves) (defScope sLeaves) .none kV_leaves dc_leaves pm_leaves an_leaves cd_leaves ct_leaves), sl_leaves⟩)
    (c_leaves : codeIn K cd_leaves "_leaves_of" = true)
    (k_leaves : keepIn K (.ref f_leaves) = true)
    (a_deedof : nsIn K mainGlobals "_deed_of" = some (some (.ref f_deedof)))
    (l_deedof : K.lookup f_deedof = some ⟨oc_deedof, od_deedof, .func (fnOf "_deed_of" "_deed_of" (defArgs sDeedOf) (defBody sDeedOf) (defScope sDeedOf) .none kV_deedof dc_deedof pm_deedof an_deedof cd_deedof ct_deedof), sl_deedof⟩)
    (c_deedof : codeIn K cd_deedof "_deed_of" = true)
    (k_deedof : keepIn K (.ref f_deedof) = true)
    (a_deedsof : nsIn K mainGlobals "_deeds_of" = some (some (.ref f_deedsof)))
    (l_deedsof : K.lookup f_deedsof = some ⟨oc_deedsof, od_deedsof, .func (fnOf "_deeds_of" "_deeds_of" (defArgs sDeedsOf) (defBody sDeedsOf) (defScope sDeedsOf) .none kV_deedsof dc_deedsof pm_deedsof an_deedsof cd_deedsof ct_deedsof), sl_deedsof⟩)
    (c_deedsof : codeIn K cd_deedsof "_deeds_of" = true)
    (k_deedsof : keepIn K (.ref f_deedsof) = true)
    (a_arep : nsIn K mainGlobals "_are_processes" = some (some (.ref f_arep)))
    (l_arep : K.lookup f_arep = some ⟨oc_arep, od_arep, .func (fnOf "_are_processes" "_are_processes" (defArgs sAreP) (defBody sAreP) (defScope sAreP) .none kV_arep dc_arep pm_arep an_arep cd_arep ct_arep), sl_arep⟩)
    (c_arep : codeIn K cd_arep "_are_processes" = true)
    (k_arep : keepIn K (.ref f_arep) = true)
    (a_arei : nsIn K mainGlobals "_are_inputs" = some (some (.ref f_arei)))
    (l_arei : K.lookup f_arei = some ⟨oc_arei, od_arei, .func (fnOf "_are_inputs" "_are_inputs" (defArgs sAreI) (defBody sAreI) (defScope sAreI) .none kV_arei dc_arei pm_arei an_arei cd_arei ct_arei), sl_arei⟩)
    (c_arei : codeIn K cd_arei "_are_inputs" = true)
    (k_arei : keepIn K (.ref f_arei) = true)
    (a_varsof : nsIn K mainGlobals "_variables_of" = some (some (.ref f_varsof)))
    (l_varsof : K.lookup f_varsof = some ⟨oc_varsof, od_varsof, .func (fnOf "_variables_of" "_variables_of" (defArgs sVarsOf) (defBody sVarsOf) (defScope sVarsOf) .none kV_varsof dc_varsof pm_varsof an_varsof cd_varsof ct_varsof), sl_varsof⟩)
    (c_varsof : codeIn K cd_varsof "_variables_of" = true)
    (k_varsof : keepIn K (.ref f_varsof) = true)
    (a_consof : nsIn K mainGlobals "_constants_of" = some (some (.ref f_consof)))
    (l_consof : K.lookup f_consof = some ⟨oc_consof, od_consof, .func (fnOf "_constants_of" "_constants_of" (defArgs sConsOf) (defBody sConsOf) (defScope sConsOf) .none kV_consof dc_consof pm_consof an_consof cd_consof ct_consof), sl_consof⟩)
    (c_consof : codeIn K cd_consof "_constants_of" = true)
    (k_consof : keepIn K (.ref f_consof) = true)
    (a_placesof : nsIn K mainGlobals "_places_of" = some (some (.ref f_placesof)))
    (l_placesof : K.lookup f_placesof = some ⟨oc_placesof, od_placesof, .func (fnOf "_places_of" "_places_of" (defArgs sPlacesOf) (defBody sPlacesOf) (defScope sPlacesOf) .none kV_placesof dc_placesof pm_placesof an_placesof cd_placesof ct_placesof), sl_placesof⟩)
    (c_placesof : codeIn K cd_placesof "_places_of" = true)
    (k_placesof : keepIn K (.ref f_placesof) = true)
    (a_wrong : nsIn K mainGlobals "_wrong_part" = some (some (.ref f_wrong)))
    (l_wrong : K.lookup f_wrong = some ⟨oc_wrong, od_wrong, .func (fnOf "_wrong_part" "_wrong_part" (defArgs sWrong) (defBody sWrong) (defScope sWrong) .none kV_wrong dc_wrong pm_wrong an_wrong cd_wrong ct_wrong), sl_wrong⟩)
    (c_wrong : codeIn K cd_wrong "_wrong_part" = true)
    (k_wrong : keepIn K (.ref f_wrong) = true)
    (a_isplace : nsIn K mainGlobals "_is_place" = some (some (.ref f_isplace)))
    (l_isplace : K.lookup f_isplace = some ⟨oc_isplace, od_isplace, .func (fnOf "_is_place" "_is_place" (defArgs sIsPlace) (defBody sIsPlace) (defScope sIsPlace) .none kV_isplace dc_isplace pm_isplace an_isplace cd_isplace ct_isplace), sl_isplace⟩)
    (c_isplace : codeIn K cd_isplace "_is_place" = true)
    (k_isplace : keepIn K (.ref f_isplace) = true)
    (a_withd : nsIn K mainGlobals "_with_delays" = some (some (.ref f_withd)))
    (l_withd : K.lookup f_withd = some ⟨oc_withd, od_withd, .func (fnOf "_with_delays" "_with_delays" (defArgs sWithD) (defBody sWithD) (defScope sWithD) .none kV_withd dc_withd pm_withd an_withd cd_withd ct_withd), sl_withd⟩)
    (c_withd : codeIn K cd_withd "_with_delays" = true)
    (k_withd : keepIn K (.ref f_withd) = true)
    (a_pool : nsIn K mainGlobals "_law_pool" = some (some (.ref f_pool)))
    (l_pool : K.lookup f_pool = some ⟨oc_pool, od_pool, .func (fnOf "_law_pool" "_law_pool" (defArgs sPool) (defBody sPool) (defScope sPool) .none kV_pool dc_pool pm_pool an_pool cd_pool ct_pool), sl_pool⟩)
    (c_pool : codeIn K cd_pool "_law_pool" = true)
    (k_pool : keepIn K (.ref f_pool) = true)
    (a_take : nsIn K mainGlobals "_law_take" = some (some (.ref f_take)))
    (l_take : K.lookup f_take = some ⟨oc_take, od_take, .func (fnOf "_law_take" "_law_take" (defArgs sTake) (defBody sTake) (defScope sTake) .none kV_take dc_take pm_take an_take cd_take ct_take), sl_take⟩)
    (c_take : codeIn K cd_take "_law_take" = true)
    (k_take : keepIn K (.ref f_take) = true)
    (a_one : nsIn K mainGlobals "_law_one" = some (some (.ref f_one)))
    (l_one : K.lookup f_one = some ⟨oc_one, od_one, .func (fnOf "_law_one" "_law_one" (defArgs sOne) (defBody sOne) (defScope sOne) .none kV_one dc_one pm_one an_one cd_one ct_one), sl_one⟩)
    (c_one : codeIn K cd_one "_law_one" = true)
    (k_one : keepIn K (.ref f_one) = true)
    (a_turned : nsIn K mainGlobals "_law_turned" = some (some (.ref f_turned)))
    (l_turned : K.lookup f_turned = some ⟨oc_turned, od_turned, .func (fnOf "_law_turned" "_law_turned" (defArgs sTurned) (defBody sTurned) (defScope sTurned) .none kV_turned dc_turned pm_turned an_turned cd_turned ct_turned), sl_turned⟩)
    (c_turned : codeIn K cd_turned "_law_turned" = true)
    (k_turned : keepIn K (.ref f_turned) = true)
    (a_words : nsIn K mainGlobals "_law_words" = some (some (.ref f_words)))
    (l_words : K.lookup f_words = some ⟨oc_words, od_words, .func (fnOf "_law_words" "_law_words" (defArgs sWords) (defBody sWords) (defScope sWords) .none kV_words dc_words pm_words an_words cd_words ct_words), sl_words⟩)
    (c_words : codeIn K cd_words "_law_words" = true)
    (k_words : keepIn K (.ref f_words) = true)
    (a_ltree : nsIn K mainGlobals "_law_tree" = some (some (.ref f_ltree)))
    (l_ltree : K.lookup f_ltree = some ⟨oc_ltree, od_ltree, .func (fnOf "_law_tree" "_law_tree" (defArgs sLTree) (defBody sLTree) (defScope sLTree) .none kV_ltree dc_ltree pm_ltree an_ltree cd_ltree ct_ltree), sl_ltree⟩)
    (c_ltree : codeIn K cd_ltree "_law_tree" = true)
    (k_ltree : keepIn K (.ref f_ltree) = true)
    (a_ltext : nsIn K mainGlobals "_law_tree_text" = some (some (.ref f_ltext)))
    (l_ltext : K.lookup f_ltext = some ⟨oc_ltext, od_ltext, .func (fnOf "_law_tree_text" "_law_tree_text" (defArgs sLText) (defBody sLText) (defScope sLText) .none kV_ltext dc_ltext pm_ltext an_ltext cd_ltext ct_ltext), sl_ltext⟩)
    (c_ltext : codeIn K cd_ltext "_law_tree_text" = true)
    (k_ltext : keepIn K (.ref f_ltext) = true)
    (a_dtext : nsIn K mainGlobals "_law_deed_text" = some (some (.ref f_dtext)))
    (l_dtext : K.lookup f_dtext = some ⟨oc_dtext, od_dtext, .func (fnOf "_law_deed_text" "_law_deed_text" (defArgs sDText) (defBody sDText) (defScope sDText) .none kV_dtext dc_dtext pm_dtext an_dtext cd_dtext ct_dtext), sl_dtext⟩)
    (c_dtext : codeIn K cd_dtext "_law_deed_text" = true)
    (k_dtext : keepIn K (.ref f_dtext) = true)
    (a_drawn : nsIn K mainGlobals "_law_deeds_drawn" = some (some (.ref f_drawn)))
    (l_drawn : K.lookup f_drawn = some ⟨oc_drawn, od_drawn, .func (fnOf "_law_deeds_drawn" "_law_deeds_drawn" (defArgs sDrawn) (defBody sDrawn) (defScope sDrawn) .none kV_drawn dc_drawn pm_drawn an_drawn cd_drawn ct_drawn), sl_drawn⟩)
    (c_drawn : codeIn K cd_drawn "_law_deeds_drawn" = true)
    (k_drawn : keepIn K (.ref f_drawn) = true)
    (a_plain : nsIn K mainGlobals "_law_plain" = some (some (.ref f_plain)))
    (l_plain : K.lookup f_plain = some ⟨oc_plain, od_plain, .func (fnOf "_law_plain" "_law_plain" (defArgs sPlainG) (defBody sPlainG) (defScope sPlainG) .none kV_plain dc_plain pm_plain an_plain cd_plain ct_plain), sl_plain⟩)
    (c_plain : codeIn K cd_plain "_law_plain" = true)
    (k_plain : keepIn K (.ref f_plain) = true)
    (a_less : nsIn K mainGlobals "_law_less_at_once" = some (some (.ref f_less)))
    (l_less : K.lookup f_less = some ⟨oc_less, od_less, .func (fnOf "_law_less_at_once" "_law_less_at_once" (defArgs sLess) (defBody sLess) (defScope sLess) .none kV_less dc_less pm_less an_less cd_less ct_less), sl_less⟩)
    (c_less : codeIn K cd_less "_law_less_at_once" = true)
    (k_less : keepIn K (.ref f_less) = true)
    (a_lnames : nsIn K mainGlobals "_law_names" = some (some (.ref f_lnames)))
    (l_lnames : K.lookup f_lnames = some ⟨oc_lnames, od_lnames, .func (fnOf "_law_names" "_law_names" (defArgs sLNames) (defBody sLNames) (defScope sLNames) .none kV_lnames dc_lnames pm_lnames an_lnames cd_lnames ct_lnames), sl_lnames⟩)
    (c_lnames : codeIn K cd_lnames "_law_names" = true)
    (k_lnames : keepIn K (.ref f_lnames) = true)
    (a_madep : nsIn K mainGlobals "_law_made_process" = some (some (.ref f_madep)))
    (l_madep : K.lookup f_madep = some ⟨oc_madep, od_madep, .func (fnOf "_law_made_process" "_law_made_process" (defArgs sMadeP) (defBody sMadeP) (defScope sMadeP) .none kV_madep dc_madep pm_madep an_madep cd_madep ct_madep), sl_madep⟩)
    (c_madep : codeIn K cd_madep "_law_made_process" = true)
    (k_madep : keepIn K (.ref f_madep) = true)
    (a_made : nsIn K mainGlobals "_law_made" = some (some (.ref f_made)))
    (l_made : K.lookup f_made = some ⟨oc_made, od_made, .func (fnOf "_law_made" "_law_made" (defArgs sMade) (defBody sMade) (defScope sMade) .none kV_made dc_made pm_made an_made cd_made ct_made), sl_made⟩)
    (c_made : codeIn K cd_made "_law_made" = true)
    (k_made : keepIn K (.ref f_made) = true)
    (a_lplaces : nsIn K mainGlobals "_law_places" = some (some (.ref f_lplaces)))
    (l_lplaces : K.lookup f_lplaces = some ⟨oc_lplaces, od_lplaces, .func (fnOf "_law_places" "_law_places" (defArgs sLPlaces) (defBody sLPlaces) (defScope sLPlaces) .none kV_lplaces dc_lplaces pm_lplaces an_lplaces cd_lplaces ct_lplaces), sl_lplaces⟩)
    (c_lplaces : codeIn K cd_lplaces "_law_places" = true)
    (k_lplaces : keepIn K (.ref f_lplaces) = true)
    (a_chkm : nsIn K mainGlobals "check_most" = some (some (.ref f_chkm)))
    (l_chkm : K.lookup f_chkm = some ⟨oc_chkm, od_chkm, .func (fnOf "check_most" "check_most" (defArgs sChkM) (defBody sChkM) (defScope sChkM) .none kV_chkm dc_chkm pm_chkm an_chkm cd_chkm ct_chkm), sl_chkm⟩)
    (c_chkm : codeIn K cd_chkm "check_most" = true)
    (k_chkm : keepIn K (.ref f_chkm) = true)
    (a_refused : nsIn K mainGlobals "_law_refused" = some (some (.ref f_refused)))
    (l_refused : K.lookup f_refused = some ⟨oc_refused, od_refused, .func (fnOf "_law_refused" "_law_refused" (defArgs sRefH) (defBody sRefH) (defScope sRefH) .none kV_refused dc_refused pm_refused an_refused cd_refused ct_refused), sl_refused⟩)
    (c_refused : codeIn K cd_refused "_law_refused" = true)
    (k_refused : keepIn K (.ref f_refused) = true)
    (a_law : nsIn K mainGlobals "law" = some (some (.ref f_law)))
    (l_law : K.lookup f_law = some ⟨oc_law, od_law, .func (fnOf "law" "law" (defArgs sLaw) (defBody sLaw) (defScope sLaw) .none kV_law dc_law pm_law an_law cd_law ct_law), sl_law⟩)
    (c_law : codeIn K cd_law "law" = true)
    (k_law : keepIn K (.ref f_law) = true)
    (a_sole : nsIn K mainGlobals "is_sole" = some (some (.ref f_sole)))
    (l_sole : K.lookup f_sole = some ⟨oc_sole, od_sole, .func (fnOf "is_sole" "is_sole" (defArgs sSole) (defBody sSole) (defScope sSole) .none (.ref D_sole) dc_sole pm_sole an_sole cd_sole ct_sole), sl_sole⟩)
    (q_sole_most : nsIn K D_sole "most" = some (some (.int 2000 t_sole_most)))
    (c_sole : codeIn K cd_sole "is_sole" = true)
    (k_sole : keepIn K (.ref f_sole) = true)
    (a_helps : nsIn K mainGlobals "helps" = some (some (.ref f_helps)))
    (l_helps : K.lookup f_helps = some ⟨oc_helps, od_helps, .func (fnOf "helps" "helps" (defArgs sHelps) (defBody sHelps) (defScope sHelps) .none (.ref D_helps) dc_helps pm_helps an_helps cd_helps ct_helps), sl_helps⟩)
    (q_helps_most : nsIn K D_helps "most" = some (some (.int 2000 t_helps_most)))
    (c_helps : codeIn K cd_helps "helps" = true)
    (k_helps : keepIn K (.ref f_helps) = true)
    (a_tinit : findIn K (.ref C) "__init__" = some (some (.ref f_tinit)))
    (i_tinit : isFn K (.ref f_tinit) = true)
    (l_tinit : K.lookup f_tinit = some ⟨oc_tinit, od_tinit, .func (fnOf "__init__" "Term.__init__" (defArgs sTInit) (defBody sTInit) (defScope sTInit) .none kV_tinit dc_tinit pm_tinit an_tinit cd_tinit ct_tinit), sl_tinit⟩)
    (c_tinit : codeIn K cd_tinit "Term.__init__" = true)
    (k_tinit : keepIn K (.ref f_tinit) = true)
    (a_tstr : findIn K (.ref C) "__str__" = some (some (.ref f_tstr)))
    (i_tstr : isFn K (.ref f_tstr) = true)
    (l_tstr : K.lookup f_tstr = some ⟨oc_tstr, od_tstr, .func (fnOf "__str__" "Term.__str__" (defArgs sTStr) (defBody sTStr) (defScope sTStr) .none kV_tstr dc_tstr pm_tstr an_tstr cd_tstr ct_tstr), sl_tstr⟩)
    (c_tstr : codeIn K cd_tstr "Term.__str__" = true)
    (k_tstr : keepIn K (.ref f_tstr) = true)
    (a_tvars : findIn K (.ref C) "variables" = some (some (.ref f_tvars)))
    (i_tvars : isFn K (.ref f_tvars) = true)
    (l_tvars : K.lookup f_tvars = some ⟨oc_tvars, od_tvars, .func (fnOf "variables" "Term.variables" (defArgs sTVars) (defBody sTVars) (defScope sTVars) .none kV_tvars dc_tvars pm_tvars an_tvars cd_tvars ct_tvars), sl_tvars⟩)
    (c_tvars : codeIn K cd_tvars "Term.variables" = true)
    (k_tvars : keepIn K (.ref f_tvars) = true)
    (a_tcons : findIn K (.ref C) "constants" = some (some (.ref f_tcons)))
    (i_tcons : isFn K (.ref f_tcons) = true)
    (l_tcons : K.lookup f_tcons = some ⟨oc_tcons, od_tcons, .func (fnOf "constants" "Term.constants" (defArgs sTCons) (defBody sTCons) (defScope sTCons) .none kV_tcons dc_tcons pm_tcons an_tcons cd_tcons ct_tcons), sl_tcons⟩)
    (c_tcons : codeIn K cd_tcons "Term.constants" = true)
    (k_tcons : keepIn K (.ref f_tcons) = true)
    (a_deq : findIn K (.ref CD) "__eq__" = some (some (.ref f_deq)))
    (i_deq : isFn K (.ref f_deq) = true)
    (l_deq : K.lookup f_deq = some ⟨oc_deq, od_deq, .func (fnOf "__eq__" "Deed.__eq__" (defArgs sDEq) (defBody sDEq) (defScope sDEq) .none kV_deq dc_deq pm_deq an_deq cd_deq ct_deq), sl_deq⟩)
    (c_deq : codeIn K cd_deq "Deed.__eq__" = true)
    (k_deq : keepIn K (.ref f_deq) = true)
    (a_ddelay : findIn K (.ref CD) "delayed" = some (some (.ref f_ddelay)))
    (i_ddelay : isFn K (.ref f_ddelay) = true)
    (l_ddelay : K.lookup f_ddelay = some ⟨oc_ddelay, od_ddelay, .func (fnOf "delayed" "Deed.delayed" (defArgs sDDelay) (defBody sDDelay) (defScope sDDelay) .none kV_ddelay dc_ddelay pm_ddelay an_ddelay cd_ddelay ct_ddelay), sl_ddelay⟩)
    (c_ddelay : codeIn K cd_ddelay "Deed.delayed" = true)
    (k_ddelay : keepIn K (.ref f_ddelay) = true)
    (a_pinit : findIn K (.ref PC) "__init__" = some (some (.ref f_pinit)))
    (i_pinit : isFn K (.ref f_pinit) = true)
    (l_pinit : K.lookup f_pinit = some ⟨oc_pinit, od_pinit, .func (fnOf "__init__" "Process.__init__" (defArgs sPInit) (defBody sPInit) (defScope sPInit) .none kV_pinit dc_pinit pm_pinit an_pinit cd_pinit ct_pinit), sl_pinit⟩)
    (c_pinit : codeIn K cd_pinit "Process.__init__" = true)
    (k_pinit : keepIn K (.ref f_pinit) = true)
    (a_peq : findIn K (.ref PC) "__eq__" = some (some (.ref f_peq)))
    (i_peq : isFn K (.ref f_peq) = true)
    (l_peq : K.lookup f_peq = some ⟨oc_peq, od_peq, .func (fnOf "__eq__" "Process.__eq__" (defArgs sPEq) (defBody sPEq) (defScope sPEq) .none kV_peq dc_peq pm_peq an_peq cd_peq ct_peq), sl_peq⟩)
    (c_peq : codeIn K cd_peq "Process.__eq__" = true)
    (k_peq : keepIn K (.ref f_peq) = true)
    (a_pwaits : findIn K (.ref PC) "waits" = some (some (.ref f_pwaits)))
    (i_pwaits : isFn K (.ref f_pwaits) = true)
    (l_pwaits : K.lookup f_pwaits = some ⟨oc_pwaits, od_pwaits, .func (fnOf "waits" "Process.waits" (defArgs sPWaits) (defBody sPWaits) (defScope sPWaits) .none kV_pwaits dc_pwaits pm_pwaits an_pwaits cd_pwaits ct_pwaits), sl_pwaits⟩)
    (c_pwaits : codeIn K cd_pwaits "Process.waits" = true)
    (k_pwaits : keepIn K (.ref f_pwaits) = true)
    (a_pdeeds : findIn K (.ref PC) "deeds" = some (some (.ref f_pdeeds)))
    (i_pdeeds : isFn K (.ref f_pdeeds) = true)
    (l_pdeeds : K.lookup f_pdeeds = some ⟨oc_pdeeds, od_pdeeds, .func (fnOf "deeds" "Process.deeds" (defArgs sPDeeds) (defBody sPDeeds) (defScope sPDeeds) .none kV_pdeeds dc_pdeeds pm_pdeeds an_pdeeds cd_pdeeds ct_pdeeds), sl_pdeeds⟩)
    (c_pdeeds : codeIn K cd_pdeeds "Process.deeds" = true)
    (k_pdeeds : keepIn K (.ref f_pdeeds) = true)
    (a_preads : findIn K (.ref PC) "reads" = some (some (.ref f_preads)))
    (i_preads : isFn K (.ref f_preads) = true)
    (l_preads : K.lookup f_preads = some ⟨oc_preads, od_preads, .func (fnOf "reads" "Process.reads" (defArgs sPReads) (defBody sPReads) (defScope sPReads) .none kV_preads dc_preads pm_preads an_preads cd_preads ct_preads), sl_preads⟩)
    (c_preads : codeIn K cd_preads "Process.reads" = true)
    (k_preads : keepIn K (.ref f_preads) = true)
    (a_pwrites : findIn K (.ref PC) "writes" = some (some (.ref f_pwrites)))
    (i_pwrites : isFn K (.ref f_pwrites) = true)
    (l_pwrites : K.lookup f_pwrites = some ⟨oc_pwrites, od_pwrites, .func (fnOf "writes" "Process.writes" (defArgs sPWrites) (defBody sPWrites) (defScope sPWrites) .none kV_pwrites dc_pwrites pm_pwrites an_pwrites cd_pwrites ct_pwrites), sl_pwrites⟩)
    (c_pwrites : codeIn K cd_pwrites "Process.writes" = true)
    (k_pwrites : keepIn K (.ref f_pwrites) = true)
    (a_pcons : findIn K (.ref PC) "constants" = some (some (.ref f_pcons)))
    (i_pcons : isFn K (.ref f_pcons) = true)
    (l_pcons : K.lookup f_pcons = some ⟨oc_pcons, od_pcons, .func (fnOf "constants" "Process.constants" (defArgs sPCons) (defBody sPCons) (defScope sPCons) .none kV_pcons dc_pcons pm_pcons an_pcons cd_pcons ct_pcons), sl_pcons⟩)
    (c_pcons : codeIn K cd_pcons "Process.constants" = true)
    (k_pcons : keepIn K (.ref f_pcons) = true)
    (a_ginit : findIn K (.ref PR) "__init__" = some (some (.ref f_ginit)))
    (i_ginit : isFn K (.ref f_ginit) = true)
    (l_ginit : K.lookup f_ginit = some ⟨oc_ginit, od_ginit, .func (fnOf "__init__" "Program.__init__" (defArgs sGInit) (defBody sGInit) (defScope sGInit) .none kV_ginit dc_ginit pm_ginit an_ginit cd_ginit ct_ginit), sl_ginit⟩)
    (c_ginit : codeIn K cd_ginit "Program.__init__" = true)
    (k_ginit : keepIn K (.ref f_ginit) = true)
    (a_geq : findIn K (.ref PR) "__eq__" = some (some (.ref f_geq)))
    (i_geq : isFn K (.ref f_geq) = true)
    (l_geq : K.lookup f_geq = some ⟨oc_geq, od_geq, .func (fnOf "__eq__" "Program.__eq__" (defArgs sGEq) (defBody sGEq) (defScope sGEq) .none kV_geq dc_geq pm_geq an_geq cd_geq ct_geq), sl_geq⟩)
    (c_geq : codeIn K cd_geq "Program.__eq__" = true)
    (k_geq : keepIn K (.ref f_geq) = true)
    (a_gplaces : findIn K (.ref PR) "places" = some (some (.ref f_gplaces)))
    (i_gplaces : isFn K (.ref f_gplaces) = true)
    (l_gplaces : K.lookup f_gplaces = some ⟨oc_gplaces, od_gplaces, .func (fnOf "places" "Program.places" (defArgs sGPlaces) (defBody sGPlaces) (defScope sGPlaces) .none kV_gplaces dc_gplaces pm_gplaces an_gplaces cd_gplaces ct_gplaces), sl_gplaces⟩)
    (c_gplaces : codeIn K cd_gplaces "Program.places" = true)
    (k_gplaces : keepIn K (.ref f_gplaces) = true)
    (a_gdelay : findIn K (.ref PR) "delayed" = some (some (.ref f_gdelay)))
    (i_gdelay : isFn K (.ref f_gdelay) = true)
    (l_gdelay : K.lookup f_gdelay = some ⟨oc_gdelay, od_gdelay, .func (fnOf "delayed" "Program.delayed" (defArgs sGDelay) (defBody sGDelay) (defScope sGDelay) .none kV_gdelay dc_gdelay pm_gdelay an_gdelay cd_gdelay ct_gdelay), sl_gdelay⟩)
    (c_gdelay : codeIn K cd_gdelay "Program.delayed" = true)
    (k_gdelay : keepIn K (.ref f_gdelay) = true)
    (a_dvar : findIn K (.ref CD) "variable" = some (some (.ref p_dvar)))
    (g_dvar : specialIn K (.ref p_dvar) "__get__" = some (some (.builtin "property.__get__")))
    (t_dvar : takesIn K (.ref p_dvar) = some true)
    (r_dvar : recIn K p_dvar "property" = some (.ref f_dvar :: rest_dvar))
    (l_dvar : K.lookup f_dvar = some ⟨oc_dvar, od_dvar, .func (fnOf "variable" "Deed.variable" (defArgs sDVar) (defBody sDVar) (defScope sDVar) .none kV_dvar dc_dvar pm_dvar an_dvar cd_dvar ct_dvar), sl_dvar⟩)
    (c_dvar : codeIn K cd_dvar "Deed.variable" = true)
    (k_dvar : keepIn K (.ref f_dvar) = true)
    (a_dterm : findIn K (.ref CD) "term" = some (some (.ref p_dterm)))
    (g_dterm : specialIn K (.ref p_dterm) "__get__" = some (some (.builtin "property.__get__")))
    (t_dterm : takesIn K (.ref p_dterm) = some true)
    (r_dterm : recIn K p_dterm "property" = some (.ref f_dterm :: rest_dterm))
    (l_dterm : K.lookup f_dterm = some ⟨oc_dterm, od_dterm, .func (fnOf "term" "Deed.term" (defArgs sDTerm) (defBody sDTerm) (defScope sDTerm) .none kV_dterm dc_dterm pm_dterm an_dterm cd_dterm ct_dterm), sl_dterm⟩)
    (c_dterm : codeIn K cd_dterm "Deed.term" = true)
    (k_dterm : keepIn K (.ref f_dterm) = true)
    (a_dlate : findIn K (.ref CD) "late" = some (some (.ref p_dlate)))
    (g_dlate : specialIn K (.ref p_dlate) "__get__" = some (some (.builtin "property.__get__")))
    (t_dlate : takesIn K (.ref p_dlate) = some true)
    (r_dlate : recIn K p_dlate "property" = some (.ref f_dlate :: rest_dlate))
    (l_dlate : K.lookup f_dlate = some ⟨oc_dlate, od_dlate, .func (fnOf "late" "Deed.late" (defArgs sDLate) (defBody sDLate) (defScope sDLate) .none kV_dlate dc_dlate pm_dlate an_dlate cd_dlate ct_dlate), sl_dlate⟩)
    (c_dlate : codeIn K cd_dlate "Deed.late" = true)
    (k_dlate : keepIn K (.ref f_dlate) = true)
    (a_pname : findIn K (.ref PC) "name" = some (some (.ref p_pname)))
    (g_pname : specialIn K (.ref p_pname) "__get__" = some (some (.builtin "property.__get__")))
    (t_pname : takesIn K (.ref p_pname) = some true)
    (r_pname : recIn K p_pname "property" = some (.ref f_pname :: rest_pname))
    (l_pname : K.lookup f_pname = some ⟨oc_pname, od_pname, .func (fnOf "name" "Process.name" (defArgs sPName) (defBody sPName) (defScope sPName) .none kV_pname dc_pname pm_pname an_pname cd_pname ct_pname), sl_pname⟩)
    (c_pname : codeIn K cd_pname "Process.name" = true)
    (k_pname : keepIn K (.ref f_pname) = true)
    (a_dinit : findIn K (.ref CD) "__init__" = some (some (.ref f_dinit)))
    (i_dinit : isFn K (.ref f_dinit) = true)
    (l_dinit : K.lookup f_dinit = some ⟨oc_dinit, od_dinit, .func (fnOf "__init__" "Deed.__init__" (defArgs sDInit) (defBody sDInit) (defScope sDInit) .none (.ref D_dinit) dc_dinit pm_dinit an_dinit cd_dinit ct_dinit), sl_dinit⟩)
    (q_dinit_late : nsIn K D_dinit "late" = some (some (.bool false)))
    (c_dinit : codeIn K cd_dinit "Deed.__init__" = true)
    (k_dinit : keepIn K (.ref f_dinit) = true)
    (a_pdelay : findIn K (.ref PC) "delayed" = some (some (.ref f_pdelay)))
    (i_pdelay : isFn K (.ref f_pdelay) = true)
    (l_pdelay : K.lookup f_pdelay = some ⟨oc_pdelay, od_pdelay, .func (fnOf "delayed" "Process.delayed" (defArgs sPDelay) (defBody sPDelay) (defScope sPDelay) .none kV_pdelay dc_pdelay pm_pdelay an_pdelay cd_pdelay ct_pdelay), sl_pdelay⟩)
    (c_pdelay : codeIn K cd_pdelay "Process.delayed" = true)
    (k_pdelay : keepIn K (.ref f_pdelay) = true)
    (g_pdelay : specialIn K (.ref f_pdelay) "__get__" = some (some (.builtin "function.__get__")))
    (t_pdelay : takesIn K (.ref f_pdelay) = some false)
    (fi_pdelay : fnIn K f_pdelay = true)
    (d_dof : readsIn K CD (.type "type") = true)
    (g_dof : specialIn K (.ref CD) "__getattribute__" = some (some (.builtin "type.__getattribute__")))
    (a_dof : findCls K (.ref CD) (.type "type") "of" = some (.get (.builtin "staticmethod.__get__") (.ref p_dof) .none (.ref CD)))
    (r_dof : recIn K p_dof "staticmethod" = some (.ref f_dof :: rest_dof))
    (l_dof : K.lookup f_dof = some ⟨oc_dof, od_dof, .func (fnOf "of" "Deed.of" (defArgs sDOf) (defBody sDOf) (defScope sDOf) .none kV_dof dc_dof pm_dof an_dof cd_dof ct_dof), sl_dof⟩)
    (c_dof : codeIn K cd_dof "Deed.of" = true)
    (k_dof : keepIn K (.ref f_dof) = true)
    (z_isinstance : nsIn K mainGlobals "isinstance" = some none)
    (z_tuple : nsIn K mainGlobals "tuple" = some none)
    (z_str : nsIn K mainGlobals "str" = some none)
    (z_int : nsIn K mainGlobals "int" = some none)
    (z_bool : nsIn K mainGlobals "bool" = some none)
    (z_max : nsIn K mainGlobals "max" = some none)
    (z_set : nsIn K mainGlobals "set" = some none)
    (z_sorted : nsIn K mainGlobals "sorted" = some none)
    (z_len : nsIn K mainGlobals "len" = some none)
    (z_any : nsIn K mainGlobals "any" = some none)
    (z_all : nsIn K mainGlobals "all" = some none)
    (z_range : nsIn K mainGlobals "range" = some none)
    (z_list : nsIn K mainGlobals "list" = some none)
    (z_min : nsIn K mainGlobals "min" = some none)
    (z_enumerate : nsIn K mainGlobals "enumerate" = some none)
    (z_repr : nsIn K mainGlobals "repr" = some none)
    (v_LETTERS : nsIn K mainGlobals "LETTERS" = some (some (.str "abcdefghijklmnopqrstuvwxyz" t_LETTERS)))
    (v_DIGITS : nsIn K mainGlobals "DIGITS" = some (some (.str "0123456789" t_DIGITS)))
    (v_PART_SIGNS : nsIn K mainGlobals "PART_SIGNS" = some (some (.str "(=?:" t_PART_SIGNS)))
    (v_MOST_LETTERS : nsIn K mainGlobals "MOST_LETTERS" = some (some (.int 8 t_MOST_LETTERS)))
    (v_MOST_DEPTH : nsIn K mainGlobals "MOST_DEPTH" = some (some (.int 3 t_MOST_DEPTH)))
    (v_MOST_CONSTANT : nsIn K mainGlobals "MOST_CONSTANT" = some (some (.int 9 t_MOST_CONSTANT)))
    (v_AT_ONCE : nsIn K mainGlobals "AT_ONCE" = some (some (.str ":=" t_AT_ONCE)))
    (v_AT_END : nsIn K mainGlobals "AT_END" = some (some (.str "<=" t_AT_END)))
    (v_TURN : nsIn K mainGlobals "TURN" = some (some (.str "turn" t_TURN)))
    (v_MOST_WAITS : nsIn K mainGlobals "MOST_WAITS" = some (some (.int 4 t_MOST_WAITS)))
    (v_MOST_DEEDS : nsIn K mainGlobals "MOST_DEEDS" = some (some (.int 4 t_MOST_DEEDS)))
    (v_MOST_PROCESSES : nsIn K mainGlobals "MOST_PROCESSES" = some (some (.int 5 t_MOST_PROCESSES)))
    (v_MOST_INPUTS : nsIn K mainGlobals "MOST_INPUTS" = some (some (.int 3 t_MOST_INPUTS)))
    (v_MOST_VARIABLES : nsIn K mainGlobals "MOST_VARIABLES" = some (some (.int 5 t_MOST_VARIABLES)))
    (v_MOST_CONSTANTS : nsIn K mainGlobals "MOST_CONSTANTS" = some (some (.int 2 t_MOST_CONSTANTS)))
    (v_MOST_AT_ONCE : nsIn K mainGlobals "MOST_AT_ONCE" = some (some (.int 8 t_MOST_AT_ONCE)))
    : ∃ fd : FuncData, (∀ (s : Shared) (v : Value), BindsTo s fd ⟨[v], []⟩ [("script", v)]) ∧ ∀ base : Heap, K.In base → base.Ns mainGlobals mg → FnG l.prog w K mg base 26 fa fd ["script"] (spLaw K) := by
  have e := hfa.symm.trans (mg_of X G a_law)
  cases e
  have F_num := fun_mk (st := sIsNum) l_num c_num k_num
  have b_num := F_num.binds (ps := ["value"]) fun _ _ _ _ _ _ us hl => match us, hl with | [_], _ => rfl
  have m_num := mg_of X G a_num
  have F_isindex := fun_mk (st := sIsIndex) l_isindex c_isindex k_isindex
  have b_isindex := F_isindex.binds (ps := ["value", "many"]) fun _ _ _ _ _ _ us hl => match us, hl with | [_, _], _ => rfl
  have m_isindex := mg_of X G a_isindex
  have F_isword := fun_mk (st := sIsWord) l_isword c_isword k_isword
  have b_isword := F_isword.binds (ps := ["value"]) fun _ _ _ _ _ _ us hl => match us, hl with | [_], _ => rfl
  have m_isword := mg_of X G a_isword
  have F_isrow := fun_mk (st := sIsRow) l_isrow c_isrow k_isrow
  have b_isrow := F_isrow.binds (ps := ["value"]) fun _ _ _ _ _ _ us hl => match us, hl with | [_], _ => rfl
  have m_isrow := mg_of X G a_isrow
  have F_short := fun_mk (st := sShort) l_short c_short k_short
  have b_short := F_short.binds (ps := ["value", "most"]) fun _ _ _ _ _ _ us hl => match us, hl with | [_, _], _ => rfl
  have m_short := mg_of X G a_short
  have F_unlike := fun_mk (st := sUnlike) l_unlike c_unlike k_unlike
  have b_unlike := F_unlike.binds (ps := ["words"]) fun _ _ _ _ _ _ us hl => match us, hl with | [_], _ => rfl
  have m_unlike := mg_of X G a_unlike
  have F_unlikew := fun_mk (st := sUnlikeW) l_unlikew c_unlikew k_unlikew
  have b_unlikew := F_unlikew.binds (ps := ["value", "most"]) fun _ _ _ _ _ _ us hl => match us, hl with | [_, _], _ => rfl
  have m_unlikew := mg_of X G a_unlikew
  have F_asc := fun_mk (st := sAsc) l_asc c_asc k_asc
  have b_asc := F_asc.binds (ps := ["values"]) fun _ _ _ _ _ _ us hl => match us, hl with | [_], _ => rfl
  have m_asc := mg_of X G a_asc
  have F_word := fun_mk (st := sWord) l_word c_word k_word
  have b_word := F_word.binds (ps := ["text", "at"]) fun _ _ _ _ _ _ us hl => match us, hl with | [_, _], _ => rfl
  have m_word := mg_of X G a_word
  have F_choice := fun_mk (st := sChoice) l_choice c_choice k_choice
  have b_choice := F_choice.binds (ps := ["text", "at", "room"]) fun _ _ _ _ _ _ us hl => match us, hl with | [_, _, _], _ => rfl
  have m_choice := mg_of X G a_choice
  have F_tree := fun_mk (st := sTree) l_tree c_tree k_tree
  have b_tree := F_tree.binds (ps := ["text", "at", "room"]) fun _ _ _ _ _ _ us hl => match us, hl with | [_, _, _], _ => rfl
  have m_tree := mg_of X G a_tree
  have F_ttext := fun_mk (st := sTreeText) l_ttext c_ttext k_ttext
  have b_ttext := F_ttext.binds (ps := ["text"]) fun _ _ _ _ _ _ us hl => match us, hl with | [_], _ => rfl
  have m_ttext := mg_of X G a_ttext
  have F_treeof := fun_mk (st := sTreeOf) l_treeof c_treeof k_treeof
  have b_treeof := F_treeof.binds (ps := ["value"]) fun _ _ _ _ _ _ us hl => match us, hl with | [_], _ => rfl
  have m_treeof := mg_of X G a_treeof
  have F_need := fun_mk (st := sNeed) l_need c_need k_need
  have b_need := F_need.binds (ps := ["value"]) fun _ _ _ _ _ _ us hl => match us, hl with | [_], _ => rfl
  have m_need := mg_of X G a_need
  have F_text := fun_mk (st := sText) l_text c_text k_text
  have b_text := F_text.binds (ps := ["tree"]) fun _ _ _ _ _ _ us hl => match us, hl with | [_], _ => rfl
  have m_text := mg_of X G a_text
  have F_depth := fun_mk (st := sDepth) l_depth c_depth k_depth
  have b_depth := F_depth.binds (ps := ["tree"]) fun _ _ _ _ _ _ us hl => match us, hl with | [_], _ => rfl
  have m_depth := mg_of X G a_depth
  have F_kind := fun_mk (st := sKind) l_kind c_kind k_kind
  have b_kind := F_kind.binds (ps := ["tree"]) fun _ _ _ _ _ _ us hl => match us, hl with | [_], _ => rfl
  have m_kind := mg_of X G a_kind
  have F_leaves := fun_mk (st := sLeaves) l_leaves c_leaves k_leaves
  have b_leaves := F_leaves.binds (ps := ["tree"]) fun _ _ _ _ _ _ us hl => match us, hl with | [_], _ => rfl
  have m_leaves := mg_of X G a_leaves
  have F_deedof := fun_mk (st := sDeedOf) l_deedof c_deedof k_deedof
  have b_deedof := F_deedof.binds (ps := ["value"]) fun _ _ _ _ _ _ us hl => match us, hl with | [_], _ => rfl
  have m_deedof := mg_of X G a_deedof
  have F_deedsof := fun_mk (st := sDeedsOf) l_deedsof c_deedsof k_deedsof
  have b_deedsof := F_deedsof.binds (ps := ["values"]) fun _ _ _ _ _ _ us hl => match us, hl with | [_], _ => rfl
  have m_deedsof := mg_of X G a_deedsof
  have F_arep := fun_mk (st := sAreP) l_arep c_arep k_arep
  have b_arep := F_arep.binds (ps := ["values"]) fun _ _ _ _ _ _ us hl => match us, hl with | [_], _ => rfl
  have m_arep := mg_of X G a_arep
  have F_arei := fun_mk (st := sAreI) l_arei c_arei k_arei
  have b_arei := F_arei.binds (ps := ["values", "processes"]) fun _ _ _ _ _ _ us hl => match us, hl with | [_, _], _ => rfl
  have m_arei := mg_of X G a_arei
  have F_varsof := fun_mk (st := sVarsOf) l_varsof c_varsof k_varsof
  have b_varsof := F_varsof.binds (ps := ["processes", "inputs"]) fun _ _ _ _ _ _ us hl => match us, hl with | [_, _], _ => rfl
  have m_varsof := mg_of X G a_varsof
  have F_consof := fun_mk (st := sConsOf) l_consof c_consof k_consof
  have b_consof := F_consof.binds (ps := ["processes"]) fun _ _ _ _ _ _ us hl => match us, hl with | [_], _ => rfl
  have m_consof := mg_of X G a_consof
  have F_placesof := fun_mk (st := sPlacesOf) l_placesof c_placesof k_placesof
  have b_placesof := F_placesof.binds (ps := ["processes"]) fun _ _ _ _ _ _ us hl => match us, hl with | [_], _ => rfl
  have m_placesof := mg_of X G a_placesof
  have F_wrong := fun_mk (st := sWrong) l_wrong c_wrong k_wrong
  have b_wrong := F_wrong.binds (ps := ["processes", "inputs"]) fun _ _ _ _ _ _ us hl => match us, hl with | [_, _], _ => rfl
  have m_wrong := mg_of X G a_wrong
  have F_isplace := fun_mk (st := sIsPlace) l_isplace c_isplace k_isplace
  have b_isplace := F_isplace.binds (ps := ["value", "places"]) fun _ _ _ _ _ _ us hl => match us, hl with | [_, _], _ => rfl
  have m_isplace := mg_of X G a_isplace
  have F_withd := fun_mk (st := sWithD) l_withd c_withd k_withd
  have b_withd := F_withd.binds (ps := ["process", "places"]) fun _ _ _ _ _ _ us hl => match us, hl with | [_, _], _ => rfl
  have m_withd := mg_of X G a_withd
  have F_pool := fun_mk (st := sPool) l_pool c_pool k_pool
  have b_pool := F_pool.binds (ps := ["script", "k"]) fun _ _ _ _ _ _ us hl => match us, hl with | [_, _], _ => rfl
  have m_pool := mg_of X G a_pool
  have F_take := fun_mk (st := sTake) l_take c_take k_take
  have b_take := F_take.binds (ps := ["pool", "bound"]) fun _ _ _ _ _ _ us hl => match us, hl with | [_, _], _ => rfl
  have m_take := mg_of X G a_take
  have F_one := fun_mk (st := sOne) l_one c_one k_one
  have b_one := F_one.binds (ps := ["pool", "things"]) fun _ _ _ _ _ _ us hl => match us, hl with | [_, _], _ => rfl
  have m_one := mg_of X G a_one
  have F_turned := fun_mk (st := sTurned) l_turned c_turned k_turned
  have b_turned := F_turned.binds (ps := ["pool", "things"]) fun _ _ _ _ _ _ us hl => match us, hl with | [_, _], _ => rfl
  have m_turned := mg_of X G a_turned
  have F_words := fun_mk (st := sWords) l_words c_words k_words
  have b_words := F_words.binds (ps := ["pool", "bound"]) fun _ _ _ _ _ _ us hl => match us, hl with | [_, _], _ => rfl
  have m_words := mg_of X G a_words
  have F_ltree := fun_mk (st := sLTree) l_ltree c_ltree k_ltree
  have b_ltree := F_ltree.binds (ps := ["pool", "words", "digits", "deep"]) fun _ _ _ _ _ _ us hl => match us, hl with | [_, _, _, _], _ => rfl
  have m_ltree := mg_of X G a_ltree
  have F_ltext := fun_mk (st := sLText) l_ltext c_ltext k_ltext
  have b_ltext := F_ltext.binds (ps := ["tree"]) fun _ _ _ _ _ _ us hl => match us, hl with | [_], _ => rfl
  have m_ltext := mg_of X G a_ltext
  have F_dtext := fun_mk (st := sDText) l_dtext c_dtext k_dtext
  have b_dtext := F_dtext.binds (ps := ["deed"]) fun _ _ _ _ _ _ us hl => match us, hl with | [_], _ => rfl
  have m_dtext := mg_of X G a_dtext
  have F_drawn := fun_mk (st := sDrawn) l_drawn c_drawn k_drawn
  have b_drawn := F_drawn.binds (ps := ["pool", "written", "words", "digits", "bound", "deep"]) fun _ _ _ _ _ _ us hl => match us, hl with | [_, _, _, _, _, _], _ => rfl
  have m_drawn := mg_of X G a_drawn
  have F_plain := fun_mk (st := sPlainG) l_plain c_plain k_plain
  have b_plain := F_plain.binds (ps := ["pool", "many_processes", "many_deeds", "deep"]) fun _ _ _ _ _ _ us hl => match us, hl with | [_, _, _, _], _ => rfl
  have m_plain := mg_of X G a_plain
  have F_less := fun_mk (st := sLess) l_less c_less k_less
  have b_less := F_less.binds (ps := ["plain"]) fun _ _ _ _ _ _ us hl => match us, hl with | [_], _ => rfl
  have m_less := mg_of X G a_less
  have F_lnames := fun_mk (st := sLNames) l_lnames c_lnames k_lnames
  have b_lnames := F_lnames.binds (ps := ["plain"]) fun _ _ _ _ _ _ us hl => match us, hl with | [_], _ => rfl
  have m_lnames := mg_of X G a_lnames
  have F_madep := fun_mk (st := sMadeP) l_madep c_madep k_madep
  have b_madep := F_madep.binds (ps := ["entry"]) fun _ _ _ _ _ _ us hl => match us, hl with | [_], _ => rfl
  have m_madep := mg_of X G a_madep
  have F_made := fun_mk (st := sMade) l_made c_made k_made
  have b_made := F_made.binds (ps := ["plain"]) fun _ _ _ _ _ _ us hl => match us, hl with | [_], _ => rfl
  have m_made := mg_of X G a_made
  have F_lplaces := fun_mk (st := sLPlaces) l_lplaces c_lplaces k_lplaces
  have b_lplaces := F_lplaces.binds (ps := ["plain"]) fun _ _ _ _ _ _ us hl => match us, hl with | [_], _ => rfl
  have m_lplaces := mg_of X G a_lplaces
  have F_chkm := fun_mk (st := sChkM) l_chkm c_chkm k_chkm
  have b_chkm := F_chkm.binds (ps := ["most"]) fun _ _ _ _ _ _ us hl => match us, hl with | [_], _ => rfl
  have m_chkm := mg_of X G a_chkm
  have F_refused := fun_mk (st := sRefH) l_refused c_refused k_refused
  have b_refused := F_refused.binds (ps := ["program", "places", "way"]) fun _ _ _ _ _ _ us hl => match us, hl with | [_, _, _], _ => rfl
  have m_refused := mg_of X G a_refused
  have F_law := fun_mk (st := sLaw) l_law c_law k_law
  have b_law := F_law.binds (ps := ["script"]) fun _ _ _ _ _ _ us hl => match us, hl with | [_], _ => rfl
  have m_law := mg_of X G a_law
  have F_sole : FunD K "is_sole" "is_sole" (defArgs sSole) (defBody sSole) (defScope sSole) [] [("most", .int 2000)] f_sole (fnOf "is_sole" "is_sole" (defArgs sSole) (defBody sSole) (defScope sSole) .none (.ref D_sole) dc_sole pm_sole an_sole cd_sole ct_sole) :=
    ⟨⟨oc_sole, od_sole, .none, .ref D_sole, dc_sole, pm_sole, an_sole, cd_sole, ct_sole, sl_sole, rfl, l_sole, c_sole, .inl ⟨rfl, rfl⟩, .inr ⟨D_sole, rfl, fun q hq => by rw [List.mem_singleton.mp hq]; exact ⟨_, q_sole_most, ⟨_, rfl⟩⟩⟩⟩, k_sole⟩
  have b_sole := F_sole.kbinds0 (ps := ["program", "most"]) 1 ["most"] [] (fun vs _ zs => vs ++ zs) (by simp) (fun q hq => by cases hq) (fun r1 _ r3 => r1.append r3) (fun D doc pm an cdv ct us mv ws l1 l2 l3 => by
    match us, mv, ws, l1, l2, l3 with
    | [_], [], [_], _, _, _ => exact rfl)
  have m_sole := mg_of X G a_sole
  have F_helps : FunD K "helps" "helps" (defArgs sHelps) (defBody sHelps) (defScope sHelps) [] [("most", .int 2000)] f_helps (fnOf "helps" "helps" (defArgs sHelps) (defBody sHelps) (defScope sHelps) .none (.ref D_helps) dc_helps pm_helps an_helps cd_helps ct_helps) :=
    ⟨⟨oc_helps, od_helps, .none, .ref D_helps, dc_helps, pm_helps, an_helps, cd_helps, ct_helps, sl_helps, rfl, l_helps, c_helps, .inl ⟨rfl, rfl⟩, .inr ⟨D_helps, rfl, fun q hq => by rw [List.mem_singleton.mp hq]; exact ⟨_, q_helps_most, ⟨_, rfl⟩⟩⟩⟩, k_helps⟩
  have b_helps := F_helps.kbinds0 (ps := ["program", "places", "most"]) 2 ["most"] [] (fun vs _ zs => vs ++ zs) (by simp) (fun q hq => by cases hq) (fun r1 _ r3 => r1.append r3) (fun D doc pm an cdv ct us mv ws l1 l2 l3 => by
    match us, mv, ws, l1, l2, l3 with
    | [_, _], [], [_], _, _, _ => exact rfl)
  have m_helps := mg_of X G a_helps
  have F_tinit := fun_mk (st := sTInit) l_tinit c_tinit k_tinit
  have b_tinit := F_tinit.binds (ps := ["self", "value"]) fun _ _ _ _ _ _ us hl => match us, hl with | [_, _], _ => rfl
  have F_tstr := fun_mk (st := sTStr) l_tstr c_tstr k_tstr
  have b_tstr := F_tstr.binds (ps := ["self"]) fun _ _ _ _ _ _ us hl => match us, hl with | [_], _ => rfl
  have F_tvars := fun_mk (st := sTVars) l_tvars c_tvars k_tvars
  have b_tvars := F_tvars.binds (ps := ["self"]) fun _ _ _ _ _ _ us hl => match us, hl with | [_], _ => rfl
  have F_tcons := fun_mk (st := sTCons) l_tcons c_tcons k_tcons
  have b_tcons := F_tcons.binds (ps := ["self"]) fun _ _ _ _ _ _ us hl => match us, hl with | [_], _ => rfl
  have F_deq := fun_mk (st := sDEq) l_deq c_deq k_deq
  have b_deq := F_deq.binds (ps := ["self", "other"]) fun _ _ _ _ _ _ us hl => match us, hl with | [_, _], _ => rfl
  have F_ddelay := fun_mk (st := sDDelay) l_ddelay c_ddelay k_ddelay
  have b_ddelay := F_ddelay.binds (ps := ["self"]) fun _ _ _ _ _ _ us hl => match us, hl with | [_], _ => rfl
  have F_pinit := fun_mk (st := sPInit) l_pinit c_pinit k_pinit
  have b_pinit := F_pinit.binds (ps := ["self", "name", "waits", "deeds"]) fun _ _ _ _ _ _ us hl => match us, hl with | [_, _, _, _], _ => rfl
  have F_peq := fun_mk (st := sPEq) l_peq c_peq k_peq
  have b_peq := F_peq.binds (ps := ["self", "other"]) fun _ _ _ _ _ _ us hl => match us, hl with | [_, _], _ => rfl
  have F_pwaits := fun_mk (st := sPWaits) l_pwaits c_pwaits k_pwaits
  have b_pwaits := F_pwaits.binds (ps := ["self"]) fun _ _ _ _ _ _ us hl => match us, hl with | [_], _ => rfl
  have F_pdeeds := fun_mk (st := sPDeeds) l_pdeeds c_pdeeds k_pdeeds
  have b_pdeeds := F_pdeeds.binds (ps := ["self"]) fun _ _ _ _ _ _ us hl => match us, hl with | [_], _ => rfl
  have F_preads := fun_mk (st := sPReads) l_preads c_preads k_preads
  have b_preads := F_preads.binds (ps := ["self"]) fun _ _ _ _ _ _ us hl => match us, hl with | [_], _ => rfl
  have F_pwrites := fun_mk (st := sPWrites) l_pwrites c_pwrites k_pwrites
  have b_pwrites := F_pwrites.binds (ps := ["self"]) fun _ _ _ _ _ _ us hl => match us, hl with | [_], _ => rfl
  have F_pcons := fun_mk (st := sPCons) l_pcons c_pcons k_pcons
  have b_pcons := F_pcons.binds (ps := ["self"]) fun _ _ _ _ _ _ us hl => match us, hl with | [_], _ => rfl
  have F_ginit := fun_mk (st := sGInit) l_ginit c_ginit k_ginit
  have b_ginit := F_ginit.binds (ps := ["self", "processes", "inputs"]) fun _ _ _ _ _ _ us hl => match us, hl with | [_, _, _], _ => rfl
  have F_geq := fun_mk (st := sGEq) l_geq c_geq k_geq
  have b_geq := F_geq.binds (ps := ["self", "other"]) fun _ _ _ _ _ _ us hl => match us, hl with | [_, _], _ => rfl
  have F_gplaces := fun_mk (st := sGPlaces) l_gplaces c_gplaces k_gplaces
  have b_gplaces := F_gplaces.binds (ps := ["self"]) fun _ _ _ _ _ _ us hl => match us, hl with | [_], _ => rfl
  have F_gdelay := fun_mk (st := sGDelay) l_gdelay c_gdelay k_gdelay
  have b_gdelay := F_gdelay.binds (ps := ["self", "places"]) fun _ _ _ _ _ _ us hl => match us, hl with | [_, _], _ => rfl
  have F_dvar := fun_mk (st := sDVar) l_dvar c_dvar k_dvar
  have b_dvar := F_dvar.binds (ps := ["self"]) fun _ _ _ _ _ _ us hl => match us, hl with | [_], _ => rfl
  have F_dterm := fun_mk (st := sDTerm) l_dterm c_dterm k_dterm
  have b_dterm := F_dterm.binds (ps := ["self"]) fun _ _ _ _ _ _ us hl => match us, hl with | [_], _ => rfl
  have F_dlate := fun_mk (st := sDLate) l_dlate c_dlate k_dlate
  have b_dlate := F_dlate.binds (ps := ["self"]) fun _ _ _ _ _ _ us hl => match us, hl with | [_], _ => rfl
  have F_pname := fun_mk (st := sPName) l_pname c_pname k_pname
  have b_pname := F_pname.binds (ps := ["self"]) fun _ _ _ _ _ _ us hl => match us, hl with | [_], _ => rfl
  have F_dof := fun_mk (st := sDOf) l_dof c_dof k_dof
  have b_dof := F_dof.binds (ps := ["text"]) fun _ _ _ _ _ _ us hl => match us, hl with | [_], _ => rfl
  have T : BltT mg := ⟨mg_none_of X G z_isinstance, mg_none_of X G z_tuple, mg_none_of X G z_str, mg_none_of X G z_int, mg_none_of X G z_bool, mg_none_of X G z_max, mg_none_of X G z_set, mg_none_of X G z_sorted, mg_none_of X G z_len, mg_none_of X G z_any⟩
  have U : BltU mg := ⟨mg_none_of X G z_range, mg_none_of X G z_list, mg_none_of X G z_min, mg_none_of X G z_enumerate⟩
  have M : CstT mg := ⟨⟨_, mg_of X G v_LETTERS⟩, ⟨_, mg_of X G v_DIGITS⟩, ⟨_, mg_of X G v_PART_SIGNS⟩, ⟨_, mg_of X G v_MOST_LETTERS⟩, ⟨_, mg_of X G v_MOST_DEPTH⟩⟩
  have ml : mg "list" = none := mg_none_of X G z_list
  have ma : mg "all" = none := mg_none_of X G z_all
  have me : mg "enumerate" = none := mg_none_of X G z_enumerate
  have TK : TermK K mg C := ⟨⟨pgC, hdC, poC, saC⟩, mg_of X G aC, n1C, n2C, n3C, n4C, n5C, n6C, n7C, haC, hn, htk, hmC, kkC, kStr, kInt, kTup, kCS⟩
  have DK : DeedT K mg CD := ⟨⟨⟨pgCD, hdCD, poCD, saCD⟩, mg_of X G aCD, n1CD, n2CD, n3CD, n4CD, ⟨_, mg_of X G v_AT_ONCE⟩, ⟨_, mg_of X G v_AT_END⟩⟩, haCD, hn, htk, hmCD, kkCD, kStrD⟩
  have PT : ProcT K mg PC := ⟨⟨⟨pgPC, hdPC, poPC, saPC⟩, mg_of X G aPC, n1PC, n2PC, n3PC, n4PC, n5PC, n6PC, ⟨_, mg_of X G v_TURN⟩, ⟨_, mg_of X G v_MOST_WAITS⟩⟩, haPC, hn, htk, hmPC, kkPC⟩
  have GT : ProgT K mg PR := ⟨⟨⟨pgPR, hdPR, poPR, saPR⟩, mg_of X G aPR, n1PR, n2PR, n3PR, n4PR, n5PR, n6PR, n7PR⟩, haPR, hn, htk, hmPR, kkPR⟩
  have R : RdF K mg _ _ _ _ _ _ := ⟨F_word, b_word, m_word, F_choice, b_choice, m_choice, F_tree, b_tree, m_tree⟩
  refine ⟨fnOf "law" "law" (defArgs sLaw) (defBody sLaw) (defScope sLaw) .none kV_law dc_law pm_law an_law cd_law ct_law, fun s v => .of_eq rfl, fun base _ _ => ?_⟩
  have GTT : FnOk l.prog w K mg base CX0 9 _ _ ["text"] spTreeText := ok_treeText F_ttext R T M
  have GTO : FnOk l.prog w K mg base CX0 10 _ _ ["value"] (spTreeOf K C) := ok_treeOf F_treeof T TK ⟨_, mg_of X G v_MOST_CONSTANT⟩ F_ttext b_ttext m_ttext GTT F_num b_num m_num
  have Hneed : Has l.prog w K mg base "_needed_tree" 11 ["value"] (spNeed C) := .mk F_need m_need b_need (ok_need F_need T TK F_treeof b_treeof m_treeof GTO)
  have Htext : Has l.prog w K mg base "_text_of" 3 ["tree"] (spText 3) := .mk F_text m_text b_text (ok_text F_text T b_text m_text (ok_text F_text T b_text m_text (ok_text F_text T b_text m_text none_text)))
  have Hdepth : Has l.prog w K mg base "_depth_of" 3 ["tree"] (spDepth 3) := .mk F_depth m_depth b_depth (ok_depth F_depth T b_depth m_depth (ok_depth F_depth T b_depth m_depth (ok_depth F_depth T b_depth m_depth none_depth)))
  have Hkind : Has l.prog w K mg base "_kind_of" 1 ["tree"] spKind := .mk F_kind m_kind b_kind (ok_kind F_kind T)
  have Hleaves : Has l.prog w K mg base "_leaves_of" 3 ["tree"] (spLeaves 3) := .mk F_leaves m_leaves b_leaves (ok_leaves F_leaves T b_leaves m_leaves (ok_leaves F_leaves T b_leaves m_leaves (ok_leaves F_leaves T b_leaves m_leaves none_leaves)))
  have Hasc : Has l.prog w K mg base "ascending" 1 ["values"] spAsc := .mk F_asc m_asc b_asc (ok_asc F_asc T)
  have HascF : Has l.prog w K mg base "ascending" 1 ["values"] spAscF := .mk F_asc m_asc b_asc (ok_ascF F_asc T)
  have DT : HasTerm l.prog w K mg base C := ⟨_, _, ⟨mkC, a_tinit, i_tinit, kcC⟩, b_tinit, ok_tinit F_tinit T TK Hneed Htext Hdepth Hkind Hleaves Hasc⟩
  have Hnum : Has l.prog w K mg base "is_number" 1 ["value"] (spNum K) := .mk F_num m_num b_num (ok_num F_num T)
  have Hisword : Has l.prog w K mg base "is_word" 1 ["value"] (spIsWord K) := .mk F_isword m_isword b_isword (ok_isword F_isword T ma ⟨_, mg_of X G v_MOST_LETTERS⟩ ⟨_, mg_of X G v_LETTERS⟩)
  have Hisrow : Has l.prog w K mg base "is_row" 1 ["value"] (spIsRow K) := .mk F_isrow m_isrow b_isrow (ok_isrow F_isrow T ml)
  have Hshort : Has l.prog w K mg base "is_short_row" 2 ["value", "most"] spShort := .mk F_short m_short b_short (ok_short F_short T Hisrow)
  have Hunlike : Has l.prog w K mg base "are_unlike" 1 ["words"] spUnlike := .mk F_unlike m_unlike b_unlike (ok_unlike F_unlike T)
  have Hunlikew : Has l.prog w K mg base "are_unlike_words" 3 ["value", "most"] spUnlikeW := .mk F_unlikew m_unlikew b_unlikew (ok_unlikew F_unlikew T ma Hshort Hisword Hunlike)
  have DS : HasStr l.prog w K mg base C := ⟨_, _, a_tstr, i_tstr, b_tstr, ok_tstr F_tstr T TK⟩
  have F_dinit : FunD K "__init__" "Deed.__init__" (defArgs sDInit) (defBody sDInit) (defScope sDInit) [] [("late", .bl false)] f_dinit (fnOf "__init__" "Deed.__init__" (defArgs sDInit) (defBody sDInit) (defScope sDInit) .none (.ref D_dinit) dc_dinit pm_dinit an_dinit cd_dinit ct_dinit) :=
    ⟨⟨oc_dinit, od_dinit, .none, .ref D_dinit, dc_dinit, pm_dinit, an_dinit, cd_dinit, ct_dinit, sl_dinit, rfl, l_dinit, c_dinit, .inl ⟨rfl, rfl⟩, .inr ⟨D_dinit, rfl, fun q hq => by rw [List.mem_singleton.mp hq]; exact ⟨_, q_dinit_late, rfl⟩⟩⟩, k_dinit⟩
  have DD : HasDeed l.prog w K mg base CD C := by
    obtain ⟨mv, KB⟩ := F_dinit.kbinds0 (ps := ["self", "variable", "term", "late"]) 3 ["late"] [] (fun vs _ zs => vs ++ zs) (by simp) (fun q hq => by cases hq) (fun r1 _ r3 => r1.append r3) (fun D doc pm an cdv ct us mv ws l1 l2 l3 => by
      match us, mv, ws, l1, l2, l3 with
      | [_, _, _], [], [_], _, _, _ => exact rfl)
    exact ⟨_, _, _, ⟨mkCD, a_dinit, i_dinit, kcCD⟩, KB, ok_dinit F_dinit T TK DK.toDeedK Hisword DT DS⟩
  have HDO : HasDOf l.prog w K mg base CD C := ⟨.type "type", _, _, _, ⟨d_dof, g_dof, a_dof, ⟨_, r_dof⟩, k_dof⟩, b_dof, ok_dof F_dof T DK.toDeedK DD⟩
  have Hdeedof : Has l.prog w K mg base "_deed_of" 17 ["value"] (spDeedOf CD C) := .mk F_deedof m_deedof b_deedof (ok_deedof F_deedof T DK HDO)
  have Hdeedsof : Has l.prog w K mg base "_deeds_of" 18 ["values"] (spDeedsOf CD C) := .mk F_deedsof m_deedsof b_deedsof (ok_deedsof F_deedsof T ⟨_, mg_of X G v_MOST_DEEDS⟩ Hshort Hdeedof)
  have PV : HasP l.prog w K mg base CD "variable" 1 (spDVar CD C) := ⟨_, _, _, ⟨a_dvar, g_dvar, t_dvar, ⟨_, r_dvar⟩⟩, b_dvar, ok_dvar F_dvar DK.toDeedK⟩
  have PTm : HasP l.prog w K mg base CD "term" 1 (spDTerm CD C) := ⟨_, _, _, ⟨a_dterm, g_dterm, t_dterm, ⟨_, r_dterm⟩⟩, b_dterm, ok_dterm F_dterm DK.toDeedK⟩
  have PL : HasP l.prog w K mg base CD "late" 1 (spDLate CD C) := ⟨_, _, _, ⟨a_dlate, g_dlate, t_dlate, ⟨_, r_dlate⟩⟩, b_dlate, ok_dlate F_dlate DK.toDeedK⟩
  have PN : HasP l.prog w K mg base PC "name" 1 (spPName PC CD C) := ⟨_, _, _, ⟨a_pname, g_pname, t_pname, ⟨_, r_pname⟩⟩, b_pname, ok_pname F_pname PT.toProcK⟩
  have MV : HasM l.prog w K mg base C "variables" 1 ["self"] (spTVars C) := ⟨_, _, ⟨a_tvars, i_tvars, k_tvars⟩, b_tvars, ok_tvars F_tvars ml TK⟩
  have MC : HasM l.prog w K mg base C "constants" 1 ["self"] (spTCons C) := ⟨_, _, ⟨a_tcons, i_tcons, k_tcons⟩, b_tcons, ok_tcons F_tcons ml TK⟩
  have HPr : HasProc l.prog w K mg base PC CD C := ⟨_, _, ⟨mkPC, a_pinit, i_pinit, kcPC⟩, b_pinit, ok_pinit F_pinit T ml TK DK.toDeedK PT.toProcK Hisword Hunlikew Hdeedsof HascF PV PTm MV MC⟩
  have MPW : HasM l.prog w K mg base PC "waits" 1 ["self"] (spPWaits PC CD C) := ⟨_, _, ⟨a_pwaits, i_pwaits, k_pwaits⟩, b_pwaits, ok_pwaits F_pwaits ml PT.toProcK⟩
  have MPD : HasM l.prog w K mg base PC "deeds" 1 ["self"] (spPDeeds PC CD C) := ⟨_, _, ⟨a_pdeeds, i_pdeeds, k_pdeeds⟩, b_pdeeds, ok_pdeeds F_pdeeds ml PT.toProcK⟩
  have MPR : HasM l.prog w K mg base PC "reads" 1 ["self"] (spPReads PC CD C) := ⟨_, _, ⟨a_preads, i_preads, k_preads⟩, b_preads, ok_preads F_preads ml PT.toProcK⟩
  have MPT : HasM l.prog w K mg base PC "writes" 1 ["self"] (spPWrites PC CD C) := ⟨_, _, ⟨a_pwrites, i_pwrites, k_pwrites⟩, b_pwrites, ok_pwrites F_pwrites ml PT.toProcK⟩
  have MPC : HasM l.prog w K mg base PC "constants" 1 ["self"] (spPCons PC CD C) := ⟨_, _, ⟨a_pcons, i_pcons, k_pcons⟩, b_pcons, ok_pcons F_pcons ml PT.toProcK⟩
  have PM : ProgM l.prog w K mg base PC CD C := ⟨.mk F_arep m_arep b_arep (ok_arep F_arep T ma PT ⟨_, mg_of X G v_MOST_PROCESSES⟩ Hshort), Hunlike, .mk F_arei m_arei b_arei (ok_arei F_arei T PT.toProcK ⟨_, mg_of X G v_MOST_INPUTS⟩ Hunlikew MPT), .mk F_varsof m_varsof b_varsof (ok_varsof F_varsof T ml PT.toProcK HascF MPW MPR MPT), .mk F_consof m_consof b_consof (ok_consof F_consof T PT.toProcK HascF MPC), .mk F_placesof m_placesof b_placesof (ok_placesof F_placesof me PT.toProcK DK.toDeedK PN PL MPD), PN⟩
  have Hwrong : Has l.prog w K mg base "_wrong_part" 5 ["processes", "inputs"] (spWrong PC CD C) := .mk F_wrong m_wrong b_wrong (ok_wrong F_wrong T PT.toProcK PM ⟨_, mg_of X G v_MOST_VARIABLES⟩ ⟨_, mg_of X G v_MOST_CONSTANTS⟩ ⟨_, mg_of X G v_MOST_AT_ONCE⟩)
  have HPg : HasProg l.prog w K mg base PR PC CD C := ⟨_, _, ⟨mkPR, a_ginit, i_ginit, kcPR⟩, b_ginit, ok_ginit F_ginit T ml PT.toProcK GT.toProgK PM Hwrong⟩
  have EDq : HasEq l.prog w K mg base CD 1 (spEqB (RDeed CD C)) := ⟨_, _, a_deq, i_deq, b_deq, ok_deq F_deq T DK⟩
  have EPq : HasEq l.prog w K mg base PC 3 (spEqB (RProc PC CD C)) := ⟨_, _, a_peq, i_peq, b_peq, ok_peq F_peq T PT EDq⟩
  have EGq : HasEq l.prog w K mg base PR 5 (spEqB (RProg PR PC CD C)) := ⟨_, _, a_geq, i_geq, b_geq, ok_geq F_geq T GT EPq⟩
  have Hpool : Has l.prog w K mg base "_law_pool" 1 ["script", "k"] (spPool K) := .mk F_pool m_pool b_pool (ok_pool F_pool T)
  have Htake : Has l.prog w K mg base "_law_take" 1 ["pool", "bound"] spTake := .mk F_take m_take b_take (ok_take F_take T)
  have Hone : Has l.prog w K mg base "_law_one" 2 ["pool", "things"] (spOne K) := .mk F_one m_one b_one (ok_one F_one T Htake)
  have Hturned : Has l.prog w K mg base "_law_turned" 2 ["pool", "things"] spTurned := .mk F_turned m_turned b_turned (ok_turned F_turned T ml Htake)
  have HwordsN : Has l.prog w K mg base "_law_words" 3 ["pool", "bound"] spWordsN := .mk F_words m_words b_words (ok_wordsN F_words T U Htake Hone)
  have Hltree : Has l.prog w K mg base "_law_tree" 4 ["pool", "words", "digits", "deep"] (spLTreeP 2) := .mk F_ltree m_ltree b_ltree (ok_ltreeP (n := 1) F_ltree T U b_ltree m_ltree Htake Hone (ok_ltreeP (n := 0) F_ltree T U b_ltree m_ltree Htake Hone none_ltreeP))
  have Hltext : Has l.prog w K mg base "_law_tree_text" 3 ["tree"] (spText 3) := .mk F_ltext m_ltext b_ltext (ok_ltext F_ltext T b_ltext m_ltext (ok_ltext F_ltext T b_ltext m_ltext (ok_ltext F_ltext T b_ltext m_ltext none_text)))
  have Hdrawn : Has l.prog w K mg base "_law_deeds_drawn" 5 ["pool", "written", "words", "digits", "bound", "deep"] (spDrawn 2) := .mk F_drawn m_drawn b_drawn (ok_drawn F_drawn T U (by decide) Htake Hone Hltree)
  have Hless : Has l.prog w K mg base "_law_less_at_once" 1 ["plain"] spLess := .mk F_less m_less b_less (ok_less F_less T)
  have Hplain : Has l.prog w K mg base "_law_plain" 6 ["pool", "many_processes", "many_deeds", "deep"] (spPlainG 2) := .mk F_plain m_plain b_plain (ok_plaing F_plain T U (by decide) Htake Hone HwordsN Hturned Hdrawn Hless)
  have Hdtext : Has l.prog w K mg base "_law_deed_text" 4 ["deed"] spDText := .mk F_dtext m_dtext b_dtext (ok_dtext F_dtext Hltext)
  have Hmadep : Has l.prog w K mg base "_law_made_process" 21 ["entry"] (spMadeP PC CD C) := .mk F_madep m_madep b_madep (ok_madep F_madep PT.toProcK Hdtext HPr)
  have Hmade : Has l.prog w K mg base "_law_made" 22 ["plain"] (spMade PR PC CD C) := .mk F_made m_made b_made (ok_made F_made GT.toProgK Hmadep HPg)
  have HdeedofM : Has l.prog w K mg base "_deed_of" 17 ["value"] (spDeedOfM CD C) := .mk F_deedof m_deedof b_deedof (ok_deedofM F_deedof T DK HDO)
  have HdeedsofM : Has l.prog w K mg base "_deeds_of" 18 ["values"] (spDeedsOfM CD C) := .mk F_deedsof m_deedsof b_deedsof (ok_deedsofM F_deedsof T ⟨_, mg_of X G v_MOST_DEEDS⟩ Hshort HdeedofM)
  have HPM : HasProcM l.prog w K mg base PC CD C := ⟨_, _, ⟨mkPC, a_pinit, i_pinit, kcPC⟩, b_pinit, ok_pinitM F_pinit T ml TK DK.toDeedK PT.toProcK Hisword Hunlikew HdeedsofM HascF PV PTm MV MC⟩
  have Hisindex : Has l.prog w K mg base "is_index" 2 ["value", "many"] (spIsIndex K) := .mk F_isindex m_isindex b_isindex (ok_isindex F_isindex Hnum)
  have MDD : HasM l.prog w K mg base CD "delayed" 16 ["self"] (spDDelay CD C) := ⟨_, _, ⟨a_ddelay, i_ddelay, k_ddelay⟩, b_ddelay, ok_ddelay F_ddelay DK.toDeedK DD⟩
  have HDel : HasDel l.prog w K mg base PC CD C := ⟨_, ⟨⟨a_pdelay, i_pdelay, k_pdelay⟩, g_pdelay, t_pdelay, by decide +kernel, fi_pdelay⟩, ok_pdelay l_pdelay c_pdelay (StX.bind_star1 (B := fun us => bindArgs (fnOf "delayed" "Process.delayed" (defArgs sPDelay) (defBody sPDelay) (defScope sPDelay) .none kV_pdelay dc_pdelay pm_pdelay an_pdelay cd_pdelay ct_pdelay) ⟨us, []⟩) (fun a => rfl) (fun a r rs => rfl)) T me PT DK.toDeedK Hisindex MDD HPM⟩
  have Hisplace : Has l.prog w K mg base "_is_place" 2 ["value", "places"] (spIsPlace K) := .mk F_isplace m_isplace b_isplace (ok_isplace F_isplace T Hnum)
  have Hwithd : Has l.prog w K mg base "_with_delays" 22 ["process", "places"] (spWithD PC CD C) := .mk F_withd m_withd b_withd (ok_withd F_withd PT.toProcK PN HDel)
  have GGD := ok_gdelay F_gdelay T GT.toProgK (ENP.1 base) Hisrow Hisplace Hwithd HPg
  have MGP : HasM l.prog w K mg base PR "places" 1 ["self"] (spGPlaces PR) := ⟨_, _, ⟨a_gplaces, i_gplaces, k_gplaces⟩, b_gplaces, ok_gplaces F_gplaces ml GT.toProgK⟩
  have Hlnames : Has l.prog w K mg base "_law_names" 1 ["plain"] spLNames := .mk F_lnames m_lnames b_lnames (ok_lnames F_lnames)
  have Hlplaces : Has l.prog w K mg base "_law_places" 1 ["plain"] spLPlaces := .mk F_lplaces m_lplaces b_lplaces (ok_lplaces F_lplaces U)
  have Hchkm : Has l.prog w K mg base "check_most" 2 ["most"] spChkM := .mk F_chkm m_chkm b_chkm (ok_chkM F_chkm Hnum)
  obtain ⟨mvS, KBS⟩ := b_sole
  obtain ⟨mvH, KBH⟩ := b_helps
  have DSole : HasKw l.prog w K mg base CX0 "is_sole" 0 1 ["program", "most"] (fun vs zs => vs ++ zs) (fun _ _ _ _ => False) := ⟨_, _, _, m_sole, k_sole, KBS, fn_none⟩
  have GHelps := ok_helpsR F_helps GT.toProgK ⟨a_gdelay, i_gdelay, k_gdelay⟩ b_gdelay GGD Hchkm DSole
  have DHelps : HasKw l.prog w K mg base (L2.CX l.prog w) "helps" 24 2 ["program", "places", "most"] (fun vs zs => vs ++ zs) (spHelpsR K PR PC CD C NP) := ⟨_, _, _, m_helps, k_helps, KBH, GHelps⟩
  have Hrefused : HasG l.prog w K mg base "_law_refused" 25 ["program", "places", "way"] (spRefH K PR PC CD C) := ⟨_, _, m_refused, k_refused, b_refused, ok_refH F_refused T (mg_none_of X G z_repr) GT.toProgK (ENP.1 base) ENP.2 ex (mg_of X G aTE) kTE ⟨a_gdelay, i_gdelay, k_gdelay⟩ b_gdelay GGD DHelps⟩
  exact ok_law F_law ⟨T, U, mg_none_of X G z_repr, GT, EGq, MGP, Hmade, Hlnames, Hrefused, Hpool, Hplain, Hlplaces⟩
theorem file_ok : ((PySem.Challenge.pw_tiedsteps_k79_delays_refused.main.file : Str) == ("/claim/cut.py" : Str)) = true := by decide +kernel
theorem top_ok : (PySem.Challenge.pw_tiedsteps_k79_delays_refused.main.scope.names.lookup ("super" : Str)).isSome = false := by decide +kernel
end TS
open PySem PySem.W PyProof.Rows
set_option maxRecDepth 100000 in
set_option maxHeartbeats 0 in
theorem PySem.Challenge.cw_tiedsteps_k79_delays_refused_holds : PySem.Challenge.rw_tiedsteps_k79_delays_refused.Holds := by
  refine TS.headK ?_
  k_fill
  refine TS.walkG (k := 26) (l := PySem.Challenge.rw_tiedsteps_k79_delays_refused) rfl rfl ⟨rfl, by decide, by decide⟩ (fun w h Y => PySem.W.kIn_of Y) ?F
  case F =>
    intro w mg fa h KX G hmg
    refine' TS.errC_mk (P := PySem.Challenge.pw_tiedsteps_k79_delays_refused) (w := w) (x := "NoPlace") (arg := "value") (qual := "NoPlace.__init__") KX G TS.valBase TS.ao_value TS.file_ok TS.top_ok ?yhn ?yhtk ?yho ?ysu ?yaC ?yxL ?yxT ?ysa ?yexC ?ytyC ?ykC ?yga ?ygg ?yhd ?yhc ?yha ?ymo ?yno ?yiC ?ytI ?ylk ?ylc ?yfl ?yle ?yms ?ycd ?ysi ?ysB ?ySO ?ypb ?_
    (case yhn => first | (as_aux_lemma => k_is) | k_is); (case yhtk => first | (as_aux_lemma => k_is) | k_is); (case yho => first | (as_aux_lemma => k_is) | k_is); (case ysu => first | (as_aux_lemma => k_is) | k_is); (case yaC => first | (as_aux_lemma => k_is) | k_is); (case yxL => first | (as_aux_lemma => k_is) | k_is); (case yxT => first | (as_aux_lemma => rfl) | rfl); (case ysa => first | (as_aux_lemma => k_is) | k_is)
    (case yexC => first | (as_aux_lemma => k_is) | k_is); (case ytyC => first | (as_aux_lemma => k_is) | k_is); (case ykC => first | (as_aux_lemma => k_is) | k_is); (case yga => first | (as_aux_lemma => k_is) | k_is); (case ygg => first | (as_aux_lemma => k_is) | k_is); (case yhd => first | (as_aux_lemma => k_is) | k_is); (case yhc => first | (as_aux_lemma => k_is) | k_is); (case yha => first | (as_aux_lemma => k_is) | k_is)
    (case ymo => first | (as_aux_lemma => k_is) | k_is); (case yno => first | (as_aux_lemma => k_is) | k_is); (case yiC => first | (as_aux_lemma => k_is) | k_is); (case ytI => first | (as_aux_lemma => k_is) | k_is); (case ylk => first | (as_aux_lemma => k_is) | k_is); (case ylc => first | (as_aux_lemma => k_is) | k_is); (case yfl => first | (as_aux_lemma => rfl) | rfl); (case yle => first | (as_aux_lemma => k_is) | k_is)
    (case yms => first | (as_aux_lemma => k_is) | k_is); (case ycd => first | (as_aux_lemma => k_is) | k_is); (case ysi => first | (as_aux_lemma => kernel_rfl) | kernel_rfl); (case ysB => first | (as_aux_lemma => k_is) | k_is); (case ySO => first | (as_aux_lemma => exact fun env => ⟨_, rfl⟩) | exact fun env => ⟨_, rfl⟩); (case ypb => first | (as_aux_lemma => exact fun _ _ => rfl) | exact fun _ _ => rfl)
    intro ENP
    refine' TS.all_mk (l := PySem.Challenge.rw_tiedsteps_k79_delays_refused) KX G hmg ENP ?yaC ?ypgC ?yhdC ?ypoC ?ysaC ?ymkC ?ykcC ?yn1C ?yn2C ?yn3C ?yn4C ?yn5C ?yn6C ?yn7C ?yhaC ?yhmC ?ykkC ?yaCD ?ypgCD ?yhdCD ?ypoCD ?ysaCD ?ymkCD ?ykcCD ?yn1CD ?yn2CD ?yn3CD ?yn4CD ?yhaCD ?yhmCD ?ykkCD ?yaPC ?ypgPC ?yhdPC ?ypoPC ?ysaPC ?ymkPC ?ykcPC ?yn1PC ?yn2PC ?yn3PC ?yn4PC ?yn5PC ?yn6PC ?yhaPC ?yhmPC ?ykkPC ?yaPR ?ypgPR ?yhdPR ?ypoPR ?ysaPR ?ymkPR ?ykcPR ?yn1PR ?yn2PR ?yn3PR ?yn4PR ?yn5PR ?yn6PR ?yn7PR ?yhaPR ?yhmPR ?ykkPR ?yhn ?yhtk ?ykStr ?ykInt ?ykTup ?ykCS ?ykStrD ?yex ?yaTE ?ykTE ?ya_num ?yl_num ?yc_num ?yk_num ?ya_isindex ?yl_isindex ?yc_isindex ?yk_isindex ?ya_isword ?yl_isword ?yc_isword ?yk_isword ?ya_isrow ?yl_isrow ?yc_isrow ?yk_isrow ?ya_short ?yl_short ?yc_short ?yk_short ?ya_unlike ?yl_unlike ?yc_unlike ?yk_unlike ?ya_unlikew ?yl_unlikew ?yc_unlikew ?yk_unlikew ?ya_asc ?yl_asc ?yc_asc ?yk_asc ?ya_word ?yl_word ?yc_word ?yk_word ?ya_choice ?yl_choice ?yc_choice ?yk_choice ?ya_tree ?yl_tree ?yc_tree ?yk_tree ?ya_ttext ?yl_ttext ?yc_ttext ?yk_ttext ?ya_treeof ?yl_treeof ?yc_treeof ?yk_treeof ?ya_need ?yl_need ?yc_need ?yk_need ?ya_text ?yl_text ?yc_text ?yk_text ?ya_depth ?yl_depth ?yc_depth ?yk_depth ?ya_kind ?yl_kind ?yc_kind ?yk_kind ?ya_leaves ?yl_leaves ?yc_leaves ?yk_leaves ?ya_deedof ?yl_deedof ?yc_deedof ?yk_deedof ?ya_deedsof ?yl_deedsof ?yc_deedsof ?yk_deedsof ?ya_arep ?yl_arep ?yc_arep ?yk_arep ?ya_arei ?yl_arei ?yc_arei ?yk_arei ?ya_varsof ?yl_varsof ?yc_varsof ?yk_varsof ?ya_consof ?yl_consof ?yc_consof ?yk_consof ?ya_placesof ?yl_placesof ?yc_placesof ?yk_placesof ?ya_wrong ?yl_wrong ?yc_wrong ?yk_wrong ?ya_isplace ?yl_isplace ?yc_isplace ?yk_isplace ?ya_withd ?yl_withd ?yc_withd ?yk_withd ?ya_pool ?yl_pool ?yc_pool ?yk_pool ?ya_take ?yl_take ?yc_take ?yk_take ?ya_one ?yl_one ?yc_one ?yk_one ?ya_turned ?yl_turned ?yc_turned ?yk_turned ?ya_words ?yl_words ?yc_words ?yk_words ?ya_ltree ?yl_ltree ?yc_ltree ?yk_ltree ?ya_ltext ?yl_ltext ?yc_ltext ?yk_ltext ?ya_dtext ?yl_dtext ?yc_dtext ?yk_dtext ?ya_drawn ?yl_drawn ?yc_drawn ?yk_drawn ?ya_plain ?yl_plain ?yc_plain ?yk_plain ?ya_less ?yl_less ?yc_less ?yk_less ?ya_lnames ?yl_lnames ?yc_lnames ?yk_lnames ?ya_madep ?yl_madep ?yc_madep ?yk_madep ?ya_made ?yl_made ?yc_made ?yk_made ?ya_lplaces ?yl_lplaces ?yc_lplaces ?yk_lplaces ?ya_chkm ?yl_chkm ?yc_chkm ?yk_chkm ?ya_refused ?yl_refused ?yc_refused ?yk_refused ?ya_law ?yl_law ?yc_law ?yk_law ?ya_sole ?yl_sole ?yq_sole_most ?yc_sole ?yk_sole ?ya_helps ?yl_helps ?yq_helps_most ?yc_helps ?yk_helps ?ya_tinit ?yi_tinit ?yl_tinit ?yc_tinit ?yk_tinit ?ya_tstr ?yi_tstr ?yl_tstr ?yc_tstr ?yk_tstr ?ya_tvars ?yi_tvars ?yl_tvars ?yc_tvars ?yk_tvars ?ya_tcons ?yi_tcons ?yl_tcons ?yc_tcons ?yk_tcons ?ya_deq ?yi_deq ?yl_deq ?yc_deq ?yk_deq ?ya_ddelay ?yi_ddelay ?yl_ddelay ?yc_ddelay ?yk_ddelay ?ya_pinit ?yi_pinit ?yl_pinit ?yc_pinit ?yk_pinit ?ya_peq ?yi_peq ?yl_peq ?yc_peq ?yk_peq ?ya_pwaits ?yi_pwaits ?yl_pwaits ?yc_pwaits ?yk_pwaits ?ya_pdeeds ?yi_pdeeds ?yl_pdeeds ?yc_pdeeds ?yk_pdeeds ?ya_preads ?yi_preads ?yl_preads ?yc_preads ?yk_preads ?ya_pwrites ?yi_pwrites ?yl_pwrites ?yc_pwrites ?yk_pwrites ?ya_pcons ?yi_pcons ?yl_pcons ?yc_pcons ?yk_pcons ?ya_ginit ?yi_ginit ?yl_ginit ?yc_ginit ?yk_ginit ?ya_geq ?yi_geq ?yl_geq ?yc_geq ?yk_geq ?ya_gplaces ?yi_gplaces ?yl_gplaces ?yc_gplaces ?yk_gplaces ?ya_gdelay ?yi_gdelay ?yl_gdelay ?yc_gdelay ?yk_gdelay ?ya_dvar ?yg_dvar ?yt_dvar ?yr_dvar ?yl_dvar ?yc_dvar ?yk_dvar ?ya_dterm ?yg_dterm ?yt_dterm ?yr_dterm ?yl_dterm ?yc_dterm ?yk_dterm ?ya_dlate ?yg_dlate ?yt_dlate ?yr_dlate ?yl_dlate ?yc_dlate ?yk_dlate ?ya_pname ?yg_pname ?yt_pname ?yr_pname ?yl_pname ?yc_pname ?yk_pname ?ya_dinit ?yi_dinit ?yl_dinit ?yq_dinit_late ?yc_dinit ?yk_dinit ?ya_pdelay ?yi_pdelay ?yl_pdelay ?yc_pdelay ?yk_pdelay ?yg_pdelay ?yt_pdelay ?yfi_pdelay ?yd_dof ?yg_dof ?ya_dof ?yr_dof ?yl_dof ?yc_dof ?yk_dof ?yz_isinstance ?yz_tuple ?yz_str ?yz_int ?yz_bool ?yz_max ?yz_set ?yz_sorted ?yz_len ?yz_any ?yz_all ?yz_range ?yz_list ?yz_min ?yz_enumerate ?yz_repr ?yv_LETTERS ?yv_DIGITS ?yv_PART_SIGNS ?yv_MOST_LETTERS ?yv_MOST_DEPTH ?yv_MOST_CONSTANT ?yv_AT_ONCE ?yv_AT_END ?yv_TURN ?yv_MOST_WAITS ?yv_MOST_DEEDS ?yv_MOST_PROCESSES ?yv_MOST_INPUTS ?yv_MOST_VARIABLES ?yv_MOST_CONSTANTS ?yv_MOST_AT_ONCE
    (case yaC => first | (as_aux_lemma => k_is) | k_is); (case ypgC => first | (as_aux_lemma => k_is) | k_is); (case yhdC => first | (as_aux_lemma => k_is) | k_is); (case ypoC => first | (as_aux_lemma => k_is) | k_is); (case ysaC => first | (as_aux_lemma => k_is) | k_is); (case ymkC => first | (as_aux_lemma => k_is) | k_is)
    (case ykcC => first | (as_aux_lemma => k_is) | k_is); (case yn1C => first | (as_aux_lemma => k_is) | k_is); (case yn2C => first | (as_aux_lemma => k_is) | k_is); (case yn3C => first | (as_aux_lemma => k_is) | k_is); (case yn4C => first | (as_aux_lemma => k_is) | k_is); (case yn5C => first | (as_aux_lemma => k_is) | k_is)
    (case yn6C => first | (as_aux_lemma => k_is) | k_is); (case yn7C => first | (as_aux_lemma => k_is) | k_is); (case yhaC => first | (as_aux_lemma => k_is) | k_is); (case yhmC => first | (as_aux_lemma => k_is) | k_is); (case ykkC => first | (as_aux_lemma => kernel_rfl) | kernel_rfl); (case yaCD => first | (as_aux_lemma => k_is) | k_is)
    (case ypgCD => first | (as_aux_lemma => k_is) | k_is); (case yhdCD => first | (as_aux_lemma => k_is) | k_is); (case ypoCD => first | (as_aux_lemma => k_is) | k_is); (case ysaCD => first | (as_aux_lemma => k_is) | k_is); (case ymkCD => first | (as_aux_lemma => k_is) | k_is); (case ykcCD => first | (as_aux_lemma => k_is) | k_is)
    (case yn1CD => first | (as_aux_lemma => k_is) | k_is); (case yn2CD => first | (as_aux_lemma => k_is) | k_is); (case yn3CD => first | (as_aux_lemma => k_is) | k_is); (case yn4CD => first | (as_aux_lemma => k_is) | k_is); (case yhaCD => first | (as_aux_lemma => k_is) | k_is); (case yhmCD => first | (as_aux_lemma => k_is) | k_is)
    (case ykkCD => first | (as_aux_lemma => kernel_rfl) | kernel_rfl); (case yaPC => first | (as_aux_lemma => k_is) | k_is); (case ypgPC => first | (as_aux_lemma => k_is) | k_is); (case yhdPC => first | (as_aux_lemma => k_is) | k_is); (case ypoPC => first | (as_aux_lemma => k_is) | k_is); (case ysaPC => first | (as_aux_lemma => k_is) | k_is)
    (case ymkPC => first | (as_aux_lemma => k_is) | k_is); (case ykcPC => first | (as_aux_lemma => k_is) | k_is); (case yn1PC => first | (as_aux_lemma => k_is) | k_is); (case yn2PC => first | (as_aux_lemma => k_is) | k_is); (case yn3PC => first | (as_aux_lemma => k_is) | k_is); (case yn4PC => first | (as_aux_lemma => k_is) | k_is)
    (case yn5PC => first | (as_aux_lemma => k_is) | k_is); (case yn6PC => first | (as_aux_lemma => k_is) | k_is); (case yhaPC => first | (as_aux_lemma => k_is) | k_is); (case yhmPC => first | (as_aux_lemma => k_is) | k_is); (case ykkPC => first | (as_aux_lemma => kernel_rfl) | kernel_rfl); (case yaPR => first | (as_aux_lemma => k_is) | k_is)
    (case ypgPR => first | (as_aux_lemma => k_is) | k_is); (case yhdPR => first | (as_aux_lemma => k_is) | k_is); (case ypoPR => first | (as_aux_lemma => k_is) | k_is); (case ysaPR => first | (as_aux_lemma => k_is) | k_is); (case ymkPR => first | (as_aux_lemma => k_is) | k_is); (case ykcPR => first | (as_aux_lemma => k_is) | k_is)
    (case yn1PR => first | (as_aux_lemma => k_is) | k_is); (case yn2PR => first | (as_aux_lemma => k_is) | k_is); (case yn3PR => first | (as_aux_lemma => k_is) | k_is); (case yn4PR => first | (as_aux_lemma => k_is) | k_is); (case yn5PR => first | (as_aux_lemma => k_is) | k_is); (case yn6PR => first | (as_aux_lemma => k_is) | k_is)
    (case yn7PR => first | (as_aux_lemma => k_is) | k_is); (case yhaPR => first | (as_aux_lemma => k_is) | k_is); (case yhmPR => first | (as_aux_lemma => k_is) | k_is); (case ykkPR => first | (as_aux_lemma => kernel_rfl) | kernel_rfl); (case yhn => first | (as_aux_lemma => k_is) | k_is); (case yhtk => first | (as_aux_lemma => k_is) | k_is)
    (case ykStr => first | (as_aux_lemma => kernel_rfl) | kernel_rfl); (case ykInt => first | (as_aux_lemma => kernel_rfl) | kernel_rfl); (case ykTup => first | (as_aux_lemma => kernel_rfl) | kernel_rfl); (case ykCS => first | (as_aux_lemma => kernel_rfl) | kernel_rfl); (case ykStrD => first | (as_aux_lemma => kernel_rfl) | kernel_rfl); (case yex => first | (as_aux_lemma => kernel_rfl) | kernel_rfl)
    (case yaTE => first | (as_aux_lemma => k_is) | k_is); (case ykTE => first | (as_aux_lemma => kernel_rfl) | kernel_rfl); (case ya_num => first | (as_aux_lemma => k_is) | k_is); (case yl_num => first | (as_aux_lemma => k_is) | k_is); (case yc_num => first | (as_aux_lemma => k_is) | k_is); (case yk_num => first | (as_aux_lemma => k_is) | k_is)
    (case ya_isindex => first | (as_aux_lemma => k_is) | k_is); (case yl_isindex => first | (as_aux_lemma => k_is) | k_is); (case yc_isindex => first | (as_aux_lemma => k_is) | k_is); (case yk_isindex => first | (as_aux_lemma => k_is) | k_is); (case ya_isword => first | (as_aux_lemma => k_is) | k_is); (case yl_isword => first | (as_aux_lemma => k_is) | k_is)
    (case yc_isword => first | (as_aux_lemma => k_is) | k_is); (case yk_isword => first | (as_aux_lemma => k_is) | k_is); (case ya_isrow => first | (as_aux_lemma => k_is) | k_is); (case yl_isrow => first | (as_aux_lemma => k_is) | k_is); (case yc_isrow => first | (as_aux_lemma => k_is) | k_is); (case yk_isrow => first | (as_aux_lemma => k_is) | k_is)
    (case ya_short => first | (as_aux_lemma => k_is) | k_is); (case yl_short => first | (as_aux_lemma => k_is) | k_is); (case yc_short => first | (as_aux_lemma => k_is) | k_is); (case yk_short => first | (as_aux_lemma => k_is) | k_is); (case ya_unlike => first | (as_aux_lemma => k_is) | k_is); (case yl_unlike => first | (as_aux_lemma => k_is) | k_is)
    (case yc_unlike => first | (as_aux_lemma => k_is) | k_is); (case yk_unlike => first | (as_aux_lemma => k_is) | k_is); (case ya_unlikew => first | (as_aux_lemma => k_is) | k_is); (case yl_unlikew => first | (as_aux_lemma => k_is) | k_is); (case yc_unlikew => first | (as_aux_lemma => k_is) | k_is); (case yk_unlikew => first | (as_aux_lemma => k_is) | k_is)
    (case ya_asc => first | (as_aux_lemma => k_is) | k_is); (case yl_asc => first | (as_aux_lemma => k_is) | k_is); (case yc_asc => first | (as_aux_lemma => k_is) | k_is); (case yk_asc => first | (as_aux_lemma => k_is) | k_is); (case ya_word => first | (as_aux_lemma => k_is) | k_is); (case yl_word => first | (as_aux_lemma => k_is) | k_is)
    (case yc_word => first | (as_aux_lemma => k_is) | k_is); (case yk_word => first | (as_aux_lemma => k_is) | k_is); (case ya_choice => first | (as_aux_lemma => k_is) | k_is); (case yl_choice => first | (as_aux_lemma => k_is) | k_is); (case yc_choice => first | (as_aux_lemma => k_is) | k_is); (case yk_choice => first | (as_aux_lemma => k_is) | k_is)
    (case ya_tree => first | (as_aux_lemma => k_is) | k_is); (case yl_tree => first | (as_aux_lemma => k_is) | k_is); (case yc_tree => first | (as_aux_lemma => k_is) | k_is); (case yk_tree => first | (as_aux_lemma => k_is) | k_is); (case ya_ttext => first | (as_aux_lemma => k_is) | k_is); (case yl_ttext => first | (as_aux_lemma => k_is) | k_is)
    (case yc_ttext => first | (as_aux_lemma => k_is) | k_is); (case yk_ttext => first | (as_aux_lemma => k_is) | k_is); (case ya_treeof => first | (as_aux_lemma => k_is) | k_is); (case yl_treeof => first | (as_aux_lemma => k_is) | k_is); (case yc_treeof => first | (as_aux_lemma => k_is) | k_is); (case yk_treeof => first | (as_aux_lemma => k_is) | k_is)
    (case ya_need => first | (as_aux_lemma => k_is) | k_is); (case yl_need => first | (as_aux_lemma => k_is) | k_is); (case yc_need => first | (as_aux_lemma => k_is) | k_is); (case yk_need => first | (as_aux_lemma => k_is) | k_is); (case ya_text => first | (as_aux_lemma => k_is) | k_is); (case yl_text => first | (as_aux_lemma => k_is) | k_is)
    (case yc_text => first | (as_aux_lemma => k_is) | k_is); (case yk_text => first | (as_aux_lemma => k_is) | k_is); (case ya_depth => first | (as_aux_lemma => k_is) | k_is); (case yl_depth => first | (as_aux_lemma => k_is) | k_is); (case yc_depth => first | (as_aux_lemma => k_is) | k_is); (case yk_depth => first | (as_aux_lemma => k_is) | k_is)
    (case ya_kind => first | (as_aux_lemma => k_is) | k_is); (case yl_kind => first | (as_aux_lemma => k_is) | k_is); (case yc_kind => first | (as_aux_lemma => k_is) | k_is); (case yk_kind => first | (as_aux_lemma => k_is) | k_is); (case ya_leaves => first | (as_aux_lemma => k_is) | k_is); (case yl_leaves => first | (as_aux_lemma => k_is) | k_is)
    (case yc_leaves => first | (as_aux_lemma => k_is) | k_is); (case yk_leaves => first | (as_aux_lemma => k_is) | k_is); (case ya_deedof => first | (as_aux_lemma => k_is) | k_is); (case yl_deedof => first | (as_aux_lemma => k_is) | k_is); (case yc_deedof => first | (as_aux_lemma => k_is) | k_is); (case yk_deedof => first | (as_aux_lemma => k_is) | k_is)
    (case ya_deedsof => first | (as_aux_lemma => k_is) | k_is); (case yl_deedsof => first | (as_aux_lemma => k_is) | k_is); (case yc_deedsof => first | (as_aux_lemma => k_is) | k_is); (case yk_deedsof => first | (as_aux_lemma => k_is) | k_is); (case ya_arep => first | (as_aux_lemma => k_is) | k_is); (case yl_arep => first | (as_aux_lemma => k_is) | k_is)
    (case yc_arep => first | (as_aux_lemma => k_is) | k_is); (case yk_arep => first | (as_aux_lemma => k_is) | k_is); (case ya_arei => first | (as_aux_lemma => k_is) | k_is); (case yl_arei => first | (as_aux_lemma => k_is) | k_is); (case yc_arei => first | (as_aux_lemma => k_is) | k_is); (case yk_arei => first | (as_aux_lemma => k_is) | k_is)
    (case ya_varsof => first | (as_aux_lemma => k_is) | k_is); (case yl_varsof => first | (as_aux_lemma => k_is) | k_is); (case yc_varsof => first | (as_aux_lemma => k_is) | k_is); (case yk_varsof => first | (as_aux_lemma => k_is) | k_is); (case ya_consof => first | (as_aux_lemma => k_is) | k_is); (case yl_consof => first | (as_aux_lemma => k_is) | k_is)
    (case yc_consof => first | (as_aux_lemma => k_is) | k_is); (case yk_consof => first | (as_aux_lemma => k_is) | k_is); (case ya_placesof => first | (as_aux_lemma => k_is) | k_is); (case yl_placesof => first | (as_aux_lemma => k_is) | k_is); (case yc_placesof => first | (as_aux_lemma => k_is) | k_is); (case yk_placesof => first | (as_aux_lemma => k_is) | k_is)
    (case ya_wrong => first | (as_aux_lemma => k_is) | k_is); (case yl_wrong => first | (as_aux_lemma => k_is) | k_is); (case yc_wrong => first | (as_aux_lemma => k_is) | k_is); (case yk_wrong => first | (as_aux_lemma => k_is) | k_is); (case ya_isplace => first | (as_aux_lemma => k_is) | k_is); (case yl_isplace => first | (as_aux_lemma => k_is) | k_is)
    (case yc_isplace => first | (as_aux_lemma => k_is) | k_is); (case yk_isplace => first | (as_aux_lemma => k_is) | k_is); (case ya_withd => first | (as_aux_lemma => k_is) | k_is); (case yl_withd => first | (as_aux_lemma => k_is) | k_is); (case yc_withd => first | (as_aux_lemma => k_is) | k_is); (case yk_withd => first | (as_aux_lemma => k_is) | k_is)
    (case ya_pool => first | (as_aux_lemma => k_is) | k_is); (case yl_pool => first | (as_aux_lemma => k_is) | k_is); (case yc_pool => first | (as_aux_lemma => k_is) | k_is); (case yk_pool => first | (as_aux_lemma => k_is) | k_is); (case ya_take => first | (as_aux_lemma => k_is) | k_is); (case yl_take => first | (as_aux_lemma => k_is) | k_is)
    (case yc_take => first | (as_aux_lemma => k_is) | k_is); (case yk_take => first | (as_aux_lemma => k_is) | k_is); (case ya_one => first | (as_aux_lemma => k_is) | k_is); (case yl_one => first | (as_aux_lemma => k_is) | k_is); (case yc_one => first | (as_aux_lemma => k_is) | k_is); (case yk_one => first | (as_aux_lemma => k_is) | k_is)
    (case ya_turned => first | (as_aux_lemma => k_is) | k_is); (case yl_turned => first | (as_aux_lemma => k_is) | k_is); (case yc_turned => first | (as_aux_lemma => k_is) | k_is); (case yk_turned => first | (as_aux_lemma => k_is) | k_is); (case ya_words => first | (as_aux_lemma => k_is) | k_is); (case yl_words => first | (as_aux_lemma => k_is) | k_is)
    (case yc_words => first | (as_aux_lemma => k_is) | k_is); (case yk_words => first | (as_aux_lemma => k_is) | k_is); (case ya_ltree => first | (as_aux_lemma => k_is) | k_is); (case yl_ltree => first | (as_aux_lemma => k_is) | k_is); (case yc_ltree => first | (as_aux_lemma => k_is) | k_is); (case yk_ltree => first | (as_aux_lemma => k_is) | k_is)
    (case ya_ltext => first | (as_aux_lemma => k_is) | k_is); (case yl_ltext => first | (as_aux_lemma => k_is) | k_is); (case yc_ltext => first | (as_aux_lemma => k_is) | k_is); (case yk_ltext => first | (as_aux_lemma => k_is) | k_is); (case ya_dtext => first | (as_aux_lemma => k_is) | k_is); (case yl_dtext => first | (as_aux_lemma => k_is) | k_is)
    (case yc_dtext => first | (as_aux_lemma => k_is) | k_is); (case yk_dtext => first | (as_aux_lemma => k_is) | k_is); (case ya_drawn => first | (as_aux_lemma => k_is) | k_is); (case yl_drawn => first | (as_aux_lemma => k_is) | k_is); (case yc_drawn => first | (as_aux_lemma => k_is) | k_is); (case yk_drawn => first | (as_aux_lemma => k_is) | k_is)
    (case ya_plain => first | (as_aux_lemma => k_is) | k_is); (case yl_plain => first | (as_aux_lemma => k_is) | k_is); (case yc_plain => first | (as_aux_lemma => k_is) | k_is); (case yk_plain => first | (as_aux_lemma => k_is) | k_is); (case ya_less => first | (as_aux_lemma => k_is) | k_is); (case yl_less => first | (as_aux_lemma => k_is) | k_is)
    (case yc_less => first | (as_aux_lemma => k_is) | k_is); (case yk_less => first | (as_aux_lemma => k_is) | k_is); (case ya_lnames => first | (as_aux_lemma => k_is) | k_is); (case yl_lnames => first | (as_aux_lemma => k_is) | k_is); (case yc_lnames => first | (as_aux_lemma => k_is) | k_is); (case yk_lnames => first | (as_aux_lemma => k_is) | k_is)
    (case ya_madep => first | (as_aux_lemma => k_is) | k_is); (case yl_madep => first | (as_aux_lemma => k_is) | k_is); (case yc_madep => first | (as_aux_lemma => k_is) | k_is); (case yk_madep => first | (as_aux_lemma => k_is) | k_is); (case ya_made => first | (as_aux_lemma => k_is) | k_is); (case yl_made => first | (as_aux_lemma => k_is) | k_is)
    (case yc_made => first | (as_aux_lemma => k_is) | k_is); (case yk_made => first | (as_aux_lemma => k_is) | k_is); (case ya_lplaces => first | (as_aux_lemma => k_is) | k_is); (case yl_lplaces => first | (as_aux_lemma => k_is) | k_is); (case yc_lplaces => first | (as_aux_lemma => k_is) | k_is); (case yk_lplaces => first | (as_aux_lemma => k_is) | k_is)
    (case ya_chkm => first | (as_aux_lemma => k_is) | k_is); (case yl_chkm => first | (as_aux_lemma => k_is) | k_is); (case yc_chkm => first | (as_aux_lemma => k_is) | k_is); (case yk_chkm => first | (as_aux_lemma => k_is) | k_is); (case ya_refused => first | (as_aux_lemma => k_is) | k_is); (case yl_refused => first | (as_aux_lemma => k_is) | k_is)
    (case yc_refused => first | (as_aux_lemma => k_is) | k_is); (case yk_refused => first | (as_aux_lemma => k_is) | k_is); (case ya_law => first | (as_aux_lemma => k_is) | k_is); (case yl_law => first | (as_aux_lemma => k_is) | k_is); (case yc_law => first | (as_aux_lemma => k_is) | k_is); (case yk_law => first | (as_aux_lemma => k_is) | k_is)
    (case ya_sole => first | (as_aux_lemma => k_is) | k_is); (case yl_sole => first | (as_aux_lemma => k_is) | k_is); (case yq_sole_most => first | (as_aux_lemma => k_is) | k_is); (case yc_sole => first | (as_aux_lemma => k_is) | k_is); (case yk_sole => first | (as_aux_lemma => k_is) | k_is); (case ya_helps => first | (as_aux_lemma => k_is) | k_is)
    (case yl_helps => first | (as_aux_lemma => k_is) | k_is); (case yq_helps_most => first | (as_aux_lemma => k_is) | k_is); (case yc_helps => first | (as_aux_lemma => k_is) | k_is); (case yk_helps => first | (as_aux_lemma => k_is) | k_is); (case ya_tinit => first | (as_aux_lemma => k_is) | k_is); (case yi_tinit => first | (as_aux_lemma => k_is) | k_is)
    (case yl_tinit => first | (as_aux_lemma => k_is) | k_is); (case yc_tinit => first | (as_aux_lemma => k_is) | k_is); (case yk_tinit => first | (as_aux_lemma => k_is) | k_is); (case ya_tstr => first | (as_aux_lemma => k_is) | k_is); (case yi_tstr => first | (as_aux_lemma => k_is) | k_is); (case yl_tstr => first | (as_aux_lemma => k_is) | k_is)
    (case yc_tstr => first | (as_aux_lemma => k_is) | k_is); (case yk_tstr => first | (as_aux_lemma => k_is) | k_is); (case ya_tvars => first | (as_aux_lemma => k_is) | k_is); (case yi_tvars => first | (as_aux_lemma => k_is) | k_is); (case yl_tvars => first | (as_aux_lemma => k_is) | k_is); (case yc_tvars => first | (as_aux_lemma => k_is) | k_is)
    (case yk_tvars => first | (as_aux_lemma => k_is) | k_is); (case ya_tcons => first | (as_aux_lemma => k_is) | k_is); (case yi_tcons => first | (as_aux_lemma => k_is) | k_is); (case yl_tcons => first | (as_aux_lemma => k_is) | k_is); (case yc_tcons => first | (as_aux_lemma => k_is) | k_is); (case yk_tcons => first | (as_aux_lemma => k_is) | k_is)
    (case ya_deq => first | (as_aux_lemma => k_is) | k_is); (case yi_deq => first | (as_aux_lemma => k_is) | k_is); (case yl_deq => first | (as_aux_lemma => k_is) | k_is); (case yc_deq => first | (as_aux_lemma => k_is) | k_is); (case yk_deq => first | (as_aux_lemma => k_is) | k_is); (case ya_ddelay => first | (as_aux_lemma => k_is) | k_is)
    (case yi_ddelay => first | (as_aux_lemma => k_is) | k_is); (case yl_ddelay => first | (as_aux_lemma => k_is) | k_is); (case yc_ddelay => first | (as_aux_lemma => k_is) | k_is); (case yk_ddelay => first | (as_aux_lemma => k_is) | k_is); (case ya_pinit => first | (as_aux_lemma => k_is) | k_is); (case yi_pinit => first | (as_aux_lemma => k_is) | k_is)
    (case yl_pinit => first | (as_aux_lemma => k_is) | k_is); (case yc_pinit => first | (as_aux_lemma => k_is) | k_is); (case yk_pinit => first | (as_aux_lemma => k_is) | k_is); (case ya_peq => first | (as_aux_lemma => k_is) | k_is); (case yi_peq => first | (as_aux_lemma => k_is) | k_is); (case yl_peq => first | (as_aux_lemma => k_is) | k_is)
    (case yc_peq => first | (as_aux_lemma => k_is) | k_is); (case yk_peq => first | (as_aux_lemma => k_is) | k_is); (case ya_pwaits => first | (as_aux_lemma => k_is) | k_is); (case yi_pwaits => first | (as_aux_lemma => k_is) | k_is); (case yl_pwaits => first | (as_aux_lemma => k_is) | k_is); (case yc_pwaits => first | (as_aux_lemma => k_is) | k_is)
    (case yk_pwaits => first | (as_aux_lemma => k_is) | k_is); (case ya_pdeeds => first | (as_aux_lemma => k_is) | k_is); (case yi_pdeeds => first | (as_aux_lemma => k_is) | k_is); (case yl_pdeeds => first | (as_aux_lemma => k_is) | k_is); (case yc_pdeeds => first | (as_aux_lemma => k_is) | k_is); (case yk_pdeeds => first | (as_aux_lemma => k_is) | k_is)
    (case ya_preads => first | (as_aux_lemma => k_is) | k_is); (case yi_preads => first | (as_aux_lemma => k_is) | k_is); (case yl_preads => first | (as_aux_lemma => k_is) | k_is); (case yc_preads => first | (as_aux_lemma => k_is) | k_is); (case yk_preads => first | (as_aux_lemma => k_is) | k_is); (case ya_pwrites => first | (as_aux_lemma => k_is) | k_is)
    (case yi_pwrites => first | (as_aux_lemma => k_is) | k_is); (case yl_pwrites => first | (as_aux_lemma => k_is) | k_is); (case yc_pwrites => first | (as_aux_lemma => k_is) | k_is); (case yk_pwrites => first | (as_aux_lemma => k_is) | k_is); (case ya_pcons => first | (as_aux_lemma => k_is) | k_is); (case yi_pcons => first | (as_aux_lemma => k_is) | k_is)
    (case yl_pcons => first | (as_aux_lemma => k_is) | k_is); (case yc_pcons => first | (as_aux_lemma => k_is) | k_is); (case yk_pcons => first | (as_aux_lemma => k_is) | k_is); (case ya_ginit => first | (as_aux_lemma => k_is) | k_is); (case yi_ginit => first | (as_aux_lemma => k_is) | k_is); (case yl_ginit => first | (as_aux_lemma => k_is) | k_is)
    (case yc_ginit => first | (as_aux_lemma => k_is) | k_is); (case yk_ginit => first | (as_aux_lemma => k_is) | k_is); (case ya_geq => first | (as_aux_lemma => k_is) | k_is); (case yi_geq => first | (as_aux_lemma => k_is) | k_is); (case yl_geq => first | (as_aux_lemma => k_is) | k_is); (case yc_geq => first | (as_aux_lemma => k_is) | k_is)
    (case yk_geq => first | (as_aux_lemma => k_is) | k_is); (case ya_gplaces => first | (as_aux_lemma => k_is) | k_is); (case yi_gplaces => first | (as_aux_lemma => k_is) | k_is); (case yl_gplaces => first | (as_aux_lemma => k_is) | k_is); (case yc_gplaces => first | (as_aux_lemma => k_is) | k_is); (case yk_gplaces => first | (as_aux_lemma => k_is) | k_is)
    (case ya_gdelay => first | (as_aux_lemma => k_is) | k_is); (case yi_gdelay => first | (as_aux_lemma => k_is) | k_is); (case yl_gdelay => first | (as_aux_lemma => k_is) | k_is); (case yc_gdelay => first | (as_aux_lemma => k_is) | k_is); (case yk_gdelay => first | (as_aux_lemma => k_is) | k_is); (case ya_dvar => first | (as_aux_lemma => k_is) | k_is)
    (case yg_dvar => first | (as_aux_lemma => k_is) | k_is); (case yt_dvar => first | (as_aux_lemma => k_is) | k_is); (case yr_dvar => first | (as_aux_lemma => k_is) | k_is); (case yl_dvar => first | (as_aux_lemma => k_is) | k_is); (case yc_dvar => first | (as_aux_lemma => k_is) | k_is); (case yk_dvar => first | (as_aux_lemma => k_is) | k_is)
    (case ya_dterm => first | (as_aux_lemma => k_is) | k_is); (case yg_dterm => first | (as_aux_lemma => k_is) | k_is); (case yt_dterm => first | (as_aux_lemma => k_is) | k_is); (case yr_dterm => first | (as_aux_lemma => k_is) | k_is); (case yl_dterm => first | (as_aux_lemma => k_is) | k_is); (case yc_dterm => first | (as_aux_lemma => k_is) | k_is)
    (case yk_dterm => first | (as_aux_lemma => k_is) | k_is); (case ya_dlate => first | (as_aux_lemma => k_is) | k_is); (case yg_dlate => first | (as_aux_lemma => k_is) | k_is); (case yt_dlate => first | (as_aux_lemma => k_is) | k_is); (case yr_dlate => first | (as_aux_lemma => k_is) | k_is); (case yl_dlate => first | (as_aux_lemma => k_is) | k_is)
    (case yc_dlate => first | (as_aux_lemma => k_is) | k_is); (case yk_dlate => first | (as_aux_lemma => k_is) | k_is); (case ya_pname => first | (as_aux_lemma => k_is) | k_is); (case yg_pname => first | (as_aux_lemma => k_is) | k_is); (case yt_pname => first | (as_aux_lemma => k_is) | k_is); (case yr_pname => first | (as_aux_lemma => k_is) | k_is)
    (case yl_pname => first | (as_aux_lemma => k_is) | k_is); (case yc_pname => first | (as_aux_lemma => k_is) | k_is); (case yk_pname => first | (as_aux_lemma => k_is) | k_is); (case ya_dinit => first | (as_aux_lemma => k_is) | k_is); (case yi_dinit => first | (as_aux_lemma => k_is) | k_is); (case yl_dinit => first | (as_aux_lemma => k_is) | k_is)
    (case yq_dinit_late => first | (as_aux_lemma => k_is) | k_is); (case yc_dinit => first | (as_aux_lemma => k_is) | k_is); (case yk_dinit => first | (as_aux_lemma => k_is) | k_is); (case ya_pdelay => first | (as_aux_lemma => k_is) | k_is); (case yi_pdelay => first | (as_aux_lemma => k_is) | k_is); (case yl_pdelay => first | (as_aux_lemma => k_is) | k_is)
    (case yc_pdelay => first | (as_aux_lemma => k_is) | k_is); (case yk_pdelay => first | (as_aux_lemma => k_is) | k_is); (case yg_pdelay => first | (as_aux_lemma => k_is) | k_is); (case yt_pdelay => first | (as_aux_lemma => k_is) | k_is); (case yfi_pdelay => first | (as_aux_lemma => k_is) | k_is); (case yd_dof => first | (as_aux_lemma => k_is) | k_is)
    (case yg_dof => first | (as_aux_lemma => k_is) | k_is); (case ya_dof => first | (as_aux_lemma => k_is) | k_is); (case yr_dof => first | (as_aux_lemma => k_is) | k_is); (case yl_dof => first | (as_aux_lemma => k_is) | k_is); (case yc_dof => first | (as_aux_lemma => k_is) | k_is); (case yk_dof => first | (as_aux_lemma => k_is) | k_is)
    (case yz_isinstance => first | (as_aux_lemma => k_is) | k_is); (case yz_tuple => first | (as_aux_lemma => k_is) | k_is); (case yz_str => first | (as_aux_lemma => k_is) | k_is); (case yz_int => first | (as_aux_lemma => k_is) | k_is); (case yz_bool => first | (as_aux_lemma => k_is) | k_is); (case yz_max => first | (as_aux_lemma => k_is) | k_is)
    (case yz_set => first | (as_aux_lemma => k_is) | k_is); (case yz_sorted => first | (as_aux_lemma => k_is) | k_is); (case yz_len => first | (as_aux_lemma => k_is) | k_is); (case yz_any => first | (as_aux_lemma => k_is) | k_is); (case yz_all => first | (as_aux_lemma => k_is) | k_is); (case yz_range => first | (as_aux_lemma => k_is) | k_is)
    (case yz_list => first | (as_aux_lemma => k_is) | k_is); (case yz_min => first | (as_aux_lemma => k_is) | k_is); (case yz_enumerate => first | (as_aux_lemma => k_is) | k_is); (case yz_repr => first | (as_aux_lemma => k_is) | k_is); (case yv_LETTERS => first | (as_aux_lemma => k_is) | k_is); (case yv_DIGITS => first | (as_aux_lemma => k_is) | k_is)
    (case yv_PART_SIGNS => first | (as_aux_lemma => k_is) | k_is); (case yv_MOST_LETTERS => first | (as_aux_lemma => k_is) | k_is); (case yv_MOST_DEPTH => first | (as_aux_lemma => k_is) | k_is); (case yv_MOST_CONSTANT => first | (as_aux_lemma => k_is) | k_is); (case yv_AT_ONCE => first | (as_aux_lemma => k_is) | k_is); (case yv_AT_END => first | (as_aux_lemma => k_is) | k_is)
    (case yv_TURN => first | (as_aux_lemma => k_is) | k_is); (case yv_MOST_WAITS => first | (as_aux_lemma => k_is) | k_is); (case yv_MOST_DEEDS => first | (as_aux_lemma => k_is) | k_is); (case yv_MOST_PROCESSES => first | (as_aux_lemma => k_is) | k_is); (case yv_MOST_INPUTS => first | (as_aux_lemma => k_is) | k_is); (case yv_MOST_VARIABLES => first | (as_aux_lemma => k_is) | k_is)
    (case yv_MOST_CONSTANTS => first | (as_aux_lemma => k_is) | k_is); (case yv_MOST_AT_ONCE => first | (as_aux_lemma => k_is) | k_is)
#print axioms PySem.Challenge.cw_tiedsteps_k79_delays_refused_holds
