import PyProof.Rows.All
import Wide.All
import OpenK.AllK
import Wide.FinOn
import HandS.ForMost
import HandS.ForExc
import HandS.ExcInit
import KE.KExcSuper
import HandS.IsInst
import HandS.ExcField
import KE.KExcIs
import HandS.Evl
import HandS.Walk
import PySem.Challenge.RW_tiedsteps_k33_errors_told
set_option Elab.async false
set_option linter.all false
set_option maxRecDepth 100000
set_option maxHeartbeats 4000000
namespace TS
open PySem PySem.Spec PyProof.Rows PySem.W PySem.Calls L2
/-- what __init__(self, x) of an own error promises: the object gets its dict with one attribute -/
def spIni (C : Addr) (fld : Str) : Sp := fun vs H Q _ => ∃ (a : Addr) (v : V), vs = [.ref a, v] ∧ H a = some (exo a C none) ∧
  ∀ dx, H dx = none → dx ≠ a → Q .non (upd (upd H dx (exd dx [(fld, v)])) a (exo a C (some dx)))
/-- a def's scope by its names -/
abbrev fscope (names : List (Str × NameKind)) : Scope := { kind := .function, names := names, isGenerator := false, isCoroutine := false, more := [] }
/-- super().__init__(text) -/
abbrev supX (msg : Str) (kk : Nat) (p0 p1 p2 p3 p4 : Pos) : Expr := .Call (.Attribute (.Call (.Name "super" p0) [] [] p1) "__init__" p2) [.Constant (.str msg) kk p3] [] p4
/-- its evaluation, as the positions allow it -/
def SupOk (msg : Str) (kk : Nat) (p0 p1 p2 p3 p4 : Pos) : Prop := ∀ env : Env, ∃ pl : Sem Bool, eval (supX msg kk p0 p1 p2 p3 p4) env = (do
  let ov ← attributeBase (.Call (.Name "super" p0) [] [] p1) "__init__" env (eval (.Call (.Name "super" p0) [] [] p1) env)
  standAt p2.atName
  let (f, first) ← holding [ov] (getMethod ov "__init__" pl)
  callWith p4 f first (backTo p4 (starEach [.Constant (.str msg) kk p3] env)) [])
/-- what is known of a built-in error's __init__ -/
structure IniF (B initId : String) : Prop where
  plain : plainId initId = true
  entry : entryFor table initId = some Builtin.«BaseException.__init__»
  kind : builtinKind initId = some .slot
  row : Manifest.signature? initId = some ⟨.positional, "*", B, .self, [⟨"args", .varPos, false⟩]⟩
  noStar : (B != "*") = true
  KF : KxsFacts B initId
theorem IniF.of {B newId initId : String} (F : ExcCallFacts B newId initId) (k : KxsFacts B initId) : IniF B initId := ⟨F.init.plain, F.initEntry, F.initKind, F.initRow, F.noStar, k⟩
theorem check_b {M : Model} {A : Around} {E : Value → Shared → Prop} {h : Heap} {g : Array GenState} {d : Drawn} {t : Nat} {os : OsState} {B initId newId : String} (F : IniF B initId) {nm q : Str} {C N e : Addr} {oe : Obj} {bs bm : List Value} {hdct : Bool} {sn : List Str} {sub : List Value} {ab : Bool} {col : Option Bool} {dd : Option Addr} {k0 k1 k2 k3 k5 : Option Value} {rest : List Value} {Q : Unit → Shared → Prop}
    (hC : h.get? C = some (excClassObj nm q C N bs bm hdct sn sub ab col dd k0 k1 k2 k3 k5 newId)) (he : h.get? e = some oe) (hcls : oe.cls = .ref C) (hq : Q () ⟨h, g, d, t, os⟩) : wpAny M A (checkBoundCall initId ⟨.ref e :: rest, []⟩) Q E ⟨h, g, d, t, os⟩ := by
  have hst := F.noStar
  simp only [checkBoundCall, F.kind, F.row]
  repeat (first
    | (with_reducible refine wpAny_loadPart_at he ?_; rw [hcls])
    | with_reducible refine wpAny_loadPart_at hC ?_
    | wp_step)
  refine wpAny_onRaise ?_
  have z : ∀ (x y : String) (n : Nat), Bind.check ⟨.positional, "*", B, .self, [⟨"args", .varPos, false⟩]⟩ x y n (List.map (fun x => x.fst) ({ pos := Value.ref e :: rest } : Args).kw) = pure () := fun x y n => check_star_args _ _ _ _ _ _
  rw [z]
  exact wpAny_pure hq
/-- what the written part says of an own error's class, over the built-in B -/
structure ErrK (K : Frag) (C : Addr) (B newId initId : String) (bmB : List Value) : Prop where
  NF : ∃ (Bn iN : String) (bmN : List Value), ExcBaseFacts Bn newId iN bmN ∧ bmB.contains (.type Bn) = true
  noA : bmB.contains (.type "AttributeError") = false
  noN : bmB.contains (.type "NameError") = false
  IF : IniF B initId
  pass : ∀ self : Value, refuseLoop self "__setattr__" bmB = pure ()
  obj : bmB.contains (.type "object") = true
  cls : ∃ nm qn N bs bm sn sub ab col dd k0 k1 k2 k3 k5, K.lookup C = some (excClassObj nm qn C N bs bm true sn sub ab col dd k0 k1 k2 k3 k5 newId) ∧ excTail bmB bm = true
  sa : findIn K (.ref C) "__setattr__" = some (some (.builtin "object.__setattr__"))
  exC : subIn K (.ref C) (.type "BaseException") = some true
  tyC : typeIn K (.ref C) = some (.type "type")
  kC : keepIn K (.ref C) = true
open Builtin Builtin.ObjectAttr in
/-- self.name = v on an error that has no dict yet -/
theorem exc_put {prog : Program} {w : World} {A : Around} {R : Result → Shared → Prop} {hp : Heap} {g : Array GenState} {dr : Drawn} {t : Nat} {os : OsState} {K : Frag} {name : Str} {tk : Tok} {v : Value} {x C : Addr} {fv : Array Value} {nm qn : Str} {N : Addr} {bs bm sub : List Value} {sn : List Str} {ab : Bool} {col : Option Bool} {bmB : List Value}
    (X : K.In hp) (hx : hp.get? x = some { cls := .ref C, data := .fields fv }) (hm : excTail bmB bm = true) (hps : ∀ self : Value, refuseLoop self "__setattr__" bmB = pure ()) (hob : bmB.contains (.type "object") = true)
    (hcd : clsIn K C = some { name := nm, bases := bs, mro := .ref C :: bm, ns := N, qualname := qn, hasDict := true, slotNames := sn, subclasses := sub, abstract := ab, collection := col, hasDel := false })
    (ha : findIn K (.ref C) name = some none)
    (hq : ∀ h' tk' dx, (∀ b o, b ≠ x → hp.get? b = some o → h'.get? b = some o) → hp.objs.size ≤ dx → dx ≠ x → h'.get? x = some { cls := .ref C, dict := some dx, data := .fields fv } →
      h'.Ns1 dx (fun y => if y = name then some v else none) → R (.ok (.ret .none)) ⟨h', g, dr, tk', os⟩) :
    codeAny (model prog w) A (.call (.builtin "object.__setattr__") ⟨[.ref x, .str name tk, v], []⟩) R ⟨hp, g, dr, t, os⟩ := by
  have J : InstAt hp x { cls := .ref C, data := .fields fv } C none := ⟨hx, rfl, rfl, trivial⟩
  have hT : excTail bmB (.ref C :: bm) = true := hm
  have ob : (Value.ref C :: bm).contains (.type "object") = true := (excTail_contains "object" _ hT).trans hob
  have fresh : x ≠ hp.objs.size := Nat.ne_of_lt (Heap.lt_size hx)
  have isob : Looks (model prog w) hp (isInstance (.ref x) (.type "object")) true := J.type.andThen (looks_mroIn X (by
    unfold mroIn
    rw [hcd, Option.bind_some, if_neg (by simp), ob]))
  have SO := F.store_object
  refine codeAny_call_builtin SO.slot.plain SO.entry (@check_slot (model prog w) _ _ ⟨hp, g, dr, t, os⟩ "object.__setattr__" "object" "__setattr__" (.ref x) [.str name tk, v] [] _ SO.kind SO.split isob (SO.args (.ref x) (.str name tk) v) ?_)
  have Lm : Looks (model prog w) hp (mroOf (.ref C)) (.ref C :: bm) := (looks_clsIn X hcd).andThen .now
  have Ln : Looks (model prog w) hp (storeTaker? none) none := .now
  have Lc := looks_clsIn (M := model prog w) X hcd
  rw [osa_eq, refuse_eq]
  refine wpAny_bind (wpAny_bind (J.type.at (wpAny_bind (Lm.at ?_))))
  rw [excTail_pass _ (hps _) _ hT]
  refine wpAny_pure (wpAny_bind (J.type.at (wpAny_bind ((looks_findIn X ha).at (wpAny_bind (Ln.at ?_))))))
  show wpAny _ _ (storeInOwnDict (.ref x) (.ref C) (.str name tk) name v false) _ _ _
  unfold storeInOwnDict ownDictForStores
  repeat (first | with_reducible refine PySem.HandSPX.store_in_new ?_ ?_ | with_reducible refine wpAny_loadPart_at hx ?_ | with_reducible refine Lc.at ?_ | wp_step)
  · exact ⟨_, #[], _, (Heap.get?_update_ne _ _ _ _ fresh.symm).trans (Heap.get?_push_at rfl rfl), rfl, fun e he => absurd he (by simp), fun _ => rfl⟩
  · intro h' tk' hn' hs
    have hx1 : (hp.push { cls := .type "dict", data := .dict #[] }).get? x = some { cls := .ref C, data := .fields fv } := Heap.get?_push_of_some _ hx
    refine hq h' tk' hp.objs.size (fun b o hb z => ?_) (Nat.le_refl _) fresh.symm ?_ hn'
    · refine (hs.2 b (Nat.ne_of_lt (Heap.lt_size z))).trans ?_
      exact (Heap.get?_update_ne _ _ _ _ hb).trans (Heap.get?_push_of_some _ z)
    · exact (hs.2 x fresh).trans (Heap.get?_update_self _ hx1 rfl)
/-- what the written part says of an own error's __init__ with super().__init__(text) -/
structure IniTxt (K : Frag) (C cc cda : Addr) (qual : Str) (file : Str) (B initId : String) : Prop where
  hcode : ∃ ccl cdd vs ccs tf, K.lookup cda = some ⟨ccl, cdd, .fields vs, ccs⟩ ∧ vs[2]? = some (.str file tf)
  hcell : ∃ cl cld csl, K.lookup cc = some ⟨cl, cld, .cell (some (.ref C)), csl⟩
  hself : mroIn K C (.ref C) = some true
  hcd : codeIn K (.ref cda) qual = true
  ho : nsIn K cStatics "thirdparty.any" = some none
  hm : ks_superIn K C C "__init__" = some (some (.builtin initId))
  hB : subIn K (.ref C) (.type B) = some true
theorem fn_ini {P : Program} {w : World} {K : Frag} {mg : Str → Option Value} {base : Heap} {k : Nat} {f cc cda C : Addr} {qual fld msg arg file : Str} {params : Arguments} {names : List (Str × NameKind)} {dV kV doc pm ct oc : Value} {an od : Option Addr} {osl : Array (Option Value)}
    {p0 p1 p2 p3 p4 p5 p6 p7 p8 p9 : Pos} {kk : Nat} {ar : Arg} {B newId initId : String} {bmB : List Value}
    (T : ErrK K C B newId initId bmB) (Z : IniTxt K C cc cda qual file B initId) (SO : SupOk msg kk p0 p1 p2 p3 p4)
    (lk : K.lookup f = some ⟨oc, od, .func (ksFn "__init__" qual params
      [.Expr (supX msg kk p0 p1 p2 p3 p4) p5,
       .Assign [.Attribute (.Name "self" p6) fld p7] (.Name arg p8) p9] (fscope names) dV kV doc pm an (.ref cda) ct cc), osl⟩)
    (hfile : ((P.main.file : Str) == file) = true) (htop : (P.main.scope.names.lookup ("super" : Str)).isSome = false)
    (hsup : mg "super" = none) (hno : findIn K (.ref C) fld = some none)
    (hp : (params.posonlyargs ++ params.args).head? = some ar) (har : ar.arg = "self")
    (hks : names.lookup ("super" : Str) = some .globalImplicit) (hkc : names.lookup ("__class__" : Str) = some .free)
    (hka : names.lookup ("self" : Str) = some .local) (hkv : names.lookup arg = some .local)
    (hcell : ∀ x ∈ names, x.2 ≠ .cell)
    (hne : arg ≠ "self") (hdb : (arg == ("__debug__" : Str)) = false) :
    FnOk P w K mg base CX0 (k + 1) f (ksFn "__init__" qual params
      [.Expr (supX msg kk p0 p1 p2 p3 p4) p5,
       .Assign [.Attribute (.Name "self" p6) fld p7] (.Name arg p8) p9] (fscope names) dV kV doc pm an (.ref cda) ct cc) ["self", arg] (spIni C fld) := by
  refine ⟨fun vs H Q E h => ?_, fun A outer s H args us vs Q E hr e0 hb r hsp => ?_⟩
  · obtain ⟨a, v, rfl, _⟩ := h
    rfl
  obtain ⟨a, v, rfl, ea, q⟩ := hsp
  obtain ⟨u, rfl, rv⟩ : ∃ u, us = [Value.ref a, u] ∧ RelV v u := by
    cases r with
    | cons ra rr =>
      cases rr with
      | cons rb rc =>
        cases rc
        exact ⟨_, by rw [show _ = Value.ref a from ra], rb⟩
  have KX : K.In s.heap := e0.mod.kin.keeps fun b o e => (e0.bs b o e).1
  have lim : s.heap.NoLimit := e0.mod.nolimit.keeps fun b o e => (e0.bs b o e).1
  refine ks_codeAny_call_defAt (binds := [("self", Value.ref a), (arg, u)]) hr.depth (KX _ _ lk) rfl lim (codeRec_of KX Z.hcd) rfl hb hcell ?_ (fun h₁ hns hk₁ => ?_)
  · intro x hx
    rcases List.mem_cons.mp hx with rfl | hx
    · exact hka
    · rcases List.mem_cons.mp hx with rfl | hx
      · exact hkv
      · cases hx
  have X₁ : K.In h₁ := KX.keeps hk₁
  have bk : ∀ b o, base.get? b = some o → h₁.get? b = some o := fun b o e => hk₁ b o (e0.bs b o e).1
  obtain ⟨t1, hoa⟩ := exo_at e0.hok ea
  have ho1 := hk₁ _ _ hoa
  obtain ⟨nm, qn, N, bs, bm, sn, sub, ab, col, dd, k0, k1, k2, k3, k5, hC, hbm⟩ := T.cls
  obtain ⟨ccl, cdd, cvs, ccs, tf, hcode, hcvs⟩ := Z.hcode
  obtain ⟨cl, cld, csl, hcel⟩ := Z.hcell
  have hcl : clsIn K C = some { name := nm, bases := bs, mro := .ref C :: bm, ns := N, qualname := qn, hasDict := true, slotNames := sn, subclasses := sub, abstract := ab, collection := col, hasDel := false } := by
    unfold clsIn
    rw [hC] <;> rfl
  have mself : (fun x => ([("self", Value.ref a), (arg, u)] : List (Str × Value)).reverse.lookup x) "self" = some (Value.ref a) := by
    show List.lookup ("self" : Str) [(arg, u), ("self", Value.ref a)] = _
    rw [List.lookup_cons, show (("self" : Str) == arg) = false from by simpa using fun z : ("self" : Str) = arg => hne z.symm]
    simp [List.lookup]
  have marg : (fun x => ([("self", Value.ref a), (arg, u)] : List (Str × Value)).reverse.lookup x) arg = some u := by
    show List.lookup arg [(arg, u), ("self", Value.ref a)] = _
    simp [List.lookup]
  obtain ⟨mb, hmb, hboot⟩ := e0.mod.blt
  obtain ⟨pl, he⟩ := SO (callEnv (ksFn "__init__" qual params
      [.Expr (supX msg kk p0 p1 p2 p3 p4) p5,
       .Assign [.Attribute (.Name "self" p6) fld p7] (.Name arg p8) p9] (fscope names) dV kV doc pm an (.ref cda) ct cc) s.heap.objs.size f)
  refine ks_wpAt_execs_cons (ks_wpAt_Expr_any (ks_wpAt_MethodCall ?_ he))
  refine ks_wpAt_super_base (f := f) (cc := cda) (ar := ar) hks hkc (by decide) rfl (X₁ _ _ lk) rfl hp rfl (X₁ _ _ hcode) rfl hcvs hfile htop ?_
  refine ks_loadName_global rfl hks (loadGlobal_builtin (e0.mod.glob.keeps bk) hsup (hmb.keeps bk) ((hboot _ (by decide +kernel)).trans (by decide +kernel : bootBuiltins "super" = some (.type "super"))) ⟨rfl, ?_⟩)
  refine wpAny_loadName_free rfl hkc rfl ⟨_, X₁ _ _ hcel, rfl⟩ ?_
  rw [har]
  refine wpAny_loadName_local rfl hka hns mself ?_
  refine ks_wpAny_isType_cls (X₁ _ _ hC) rfl ⟨rfl, ?_⟩
  refine ks_wpAny_call_super (X₁ _ _ hC) rfl ho1 rfl (fun c z => by cases z) (looks_mroIn X₁ Z.hself) (fun h₂ hso hk₂ => ?_)
  have X₂ : K.In h₂ := X₁.keeps hk₂
  have hoa2 := hk₂ _ _ ho1
  have I2 : InstAt h₂ a { cls := .ref C, dict := none, data := .fields #[.ref t1, .none, .none, .none, .bool false, .none] } C none := ⟨hoa2, rfl, rfl, trivial⟩
  have hm := Z.hm
  unfold ks_superIn at hm
  rw [hcl, Option.bind_some] at hm
  have xC : a ≠ C := ks_ne X₂ I2 hcl
  refine kxs_getMethod T.IF.KF hso (looks_opaque X₂ Z.ho) (l₀ := .ref C :: bm) ((looks_clsIn X₂ hcl).andThen .now) rfl X₂ hm (I2.type.andThen (looks_subIn X₂ Z.hB)) xC (by decide) ?_
  refine kxs_callWith (i := initId) (x := a) rfl ?_
  show wpAny _ _ (evalArgs _ true [(false, eval (.Constant (.str msg) kk p3) _)] []) _ _ _
  refine evalArgs_plain (spliced_cons (Calls.Constant_str (spliced_nil ?_)))
  have hu3 : (h₂.push (kxs_mw initId a)).get? h₂.objs.size = some (kxs_mw initId a) := Heap.get?_push_at rfl rfl
  have hk₃ : ∀ b o, h₂.get? b = some o → (h₂.push (kxs_mw initId a)).get? b = some o := fun b o e => Heap.get?_push_of_some _ e
  refine ⟨hu3, ?_⟩
  refine wpAny_call (codeAny_of_tree ?_)
  show wpAny _ _ (callAny (.ref h₂.objs.size) _) _ _ _
  simp only [callAny]
  refine wpAny_bind (wpAny_load hu3 ?_)
  refine KFB.if_so (by first | rfl | simp [kxs_mw]) ?_
  refine wpAny_bind (check_b T.IF (hk₃ _ _ (X₂ _ _ hC)) (hk₃ _ _ hoa2) rfl ?_)
  refine wpAny_bind (wpAny_pure (wpAny_pure ?_))
  refine ⟨plainId_quiet T.IF.plain _, codeAny_builtin T.IF.entry ?_⟩
  refine exc_init_tree (cls := .ref C) (t0 := t1) (dv := none) (c2 := .none) (c3 := .none) (b4 := .bool false) (hk₃ _ _ hoa2) (by show 1 ≤ sizeLine; decide) fun h₄ hk₄ hx₄ _ => ?_
  have k14 : ∀ b o, b ≠ a → h₁.get? b = some o → h₄.get? b = some o := fun b o hb e => hk₄ b o hb (hk₃ b o (hk₂ b o e))
  have aL : a < s.heap.objs.size := Heap.lt_size hoa
  have hns4 : h₄.Ns s.heap.objs.size (fun x => ([("self", Value.ref a), (arg, u)] : List (Str × Value)).reverse.lookup x) := by
    obtain ⟨oL, es, ep, hL, rest⟩ := hns
    exact ⟨oL, es, ep, k14 _ _ (Nat.ne_of_gt aL) hL, rest⟩
  have X₄ : K.In h₄ := fun b o e => by
    refine k14 b o ?_ (X₁ b o e)
    rintro rfl
    have hbb := (e0.mod.kin b o e)
    have := (e0.bs b o hbb).2
    rw [ea] at this
    cases this
  refine ks_wpAt_execs_cons (ks_wpAt_Assign_Attr (wpAt_of_wpAny (wpAny_Name (wpAny_loadName_local rfl hkv hns4 marg ?_) hdb)))
  refine wpAny_Name (wpAny_loadName_local rfl hka hns4 mself ?_) (by decide)
  refine set_plain X₄ (ox := { cls := .ref C, dict := none, data := .fields #[.ref (h₂.push (kxs_mw initId a)).objs.size, .none, .none, .none, .bool false, .none] }) (od := none) ⟨hx₄, rfl, rfl, trivial⟩ T.sa ?_
  refine exc_put X₄ hx₄ hbm T.pass T.obj hcl hno (fun h₅ tk₅ dx hk₅ hdx hdxa hx₅ hn₅ => ?_)
  have L4 : s.heap.objs.size < h₄.objs.size := by
    obtain ⟨oL, es, ep, hL, rest⟩ := hns4
    exact Heap.lt_size hL
  have dge : s.heap.objs.size ≤ dx := Nat.le_trans (Nat.le_of_lt L4) hdx
  have hnd : H dx = none := e0.hok.fresh dge
  have k05 : ∀ b o, b ≠ a → s.heap.get? b = some o → h₅.get? b = some o := fun b o hb e => hk₅ b o hb (k14 b o hb (hk₁ b o e))
  have nd : ∀ {b : Addr} {o : Obj}, s.heap.get? b = some o → b ≠ dx := fun {b o} z => Nat.ne_of_lt (Nat.lt_of_lt_of_le (Heap.lt_size z) dge)
  have na : ∀ {b : Addr}, H b = none → b ≠ a := fun {b} n z => by
    rw [z, ea] at n
    cases n
  refine wpAt_of_wpAny (wpAny_pure ?_)
  refine ⟨V.non, upd (upd H dx (exd dx [(fld, v)])) a (exo a C (some dx)), rfl, e0.bare, ?_, ?_, rfl, q dx hnd hdxa⟩
  · exact {
      keep := fun b o z n _ _ => k05 b o (na n) z
      slot := fun b o z n _ _ => ⟨o.slots, k05 b o (na n) z⟩
      free := fun b o z n _ => by
        rw [upd_ne (na n), upd_ne (nd z)]
        exact n
      there := fun b o z _ => by
        by_cases hb : b = a
        · exact ⟨_, by rw [hb]; exact hx₅⟩
        · exact ⟨o, k05 b o hb z⟩
      tups := fun b xs z => by
        rw [upd_ne (at_ne ea z exo_tup), upd_ne (ne_of_none z hnd)]
        exact z
      frzs := fun b o y z => by
        rw [upd_ne (at_ne ea z exo_frz), upd_ne (ne_of_none z hnd)]
        exact z
      tbls := fun b ps z => ⟨#[], by
        rw [upd_ne (at_ne ea z exo_tbl), upd_ne (ne_of_none z hnd), z]
        simp⟩ }
  · intro b o z
    by_cases hb : b = a
    · subst hb
      rw [upd_same] at z
      cases z
      exact exo_ok hx₅
    · rw [upd_ne hb] at z
      by_cases hd : b = dx
      · subst hd
        rw [upd_same] at z
        cases z
        exact exd_ok hn₅ (relO_put (fs := []) rv fun g => True.intro)
      · rw [upd_ne hd] at z
        have nown : ∀ {c : Addr}, H c = some (.own b) → c ≠ a := fun {c} hc => at_ne ea hc exo_own
        refine (e0.hok b o z).stay (fun c y hc e => k05 c y ?_ e) (fun c hc => ?_) (fun c xs hc => ?_)
        · rcases hc with hc | hc
          · rw [hc]
            exact hb
          · exact nown hc
        · rw [upd_ne (nown hc), upd_ne (ne_of_none hc hnd)]
          exact hc
        · rw [upd_ne (at_ne ea hc exo_tup), upd_ne (ne_of_none hc hnd)]
          exact hc
end TS
namespace TS
open PySem PySem.Spec PyProof.Rows PySem.W PySem.Calls L2
section
variable {prog : Program} {w : World} {M : Model} {A : Around} {E : Value → Shared → Prop} {R : Result → Shared → Prop} {h : Heap} {g : Array GenState} {d : Drawn} {t : Nat} {os : OsState}
variable {nm q : Str} {C N : Addr} {bs bm bmB : List Value} {hdct : Bool} {sn : List Str} {sub : List Value} {ab : Bool} {col : Option Bool} {dd : Option Addr} {k0 k1 k2 k3 k5 : Option Value} {B newId initId : String}
theorem check_newK (F : ExcBaseFacts B newId initId bmB) (hT : bm.contains (.type B) = true ∧ bm.contains (.type "AttributeError") = false ∧ bm.contains (.type "NameError") = false) {rest : List Value} {arg : Str} {u : Value} {Q : Unit → Shared → Prop}
    (hC : h.get? C = some (excClassObj nm q C N bs bm hdct sn sub ab col dd k0 k1 k2 k3 k5 newId)) (hq : Q () ⟨h, g, d, t, os⟩) :
    wpAny M A (checkBuiltinCall newId ⟨.ref C :: rest, [(arg, u)]⟩) Q E ⟨h, g, d, t, os⟩ := by
  have hB : (Value.ref C :: bm).contains (.type B) = true := by
    rw [List.contains_cons, hT.1, Bool.or_true]
  have hst := F.noStar
  simp only [checkBuiltinCall, F.newKind, F.newSplit, F.newRow]
  repeat (first
    | refine wpAny_loadPart_at hC ?_
    | (refine wpAny_isSubtype_exc hC ?_; rw [hB])
    | refine wpAny_staticBase_exc hC ?_
    | refine wpAny_madeBy_exc hC ?_
    | simp only [bne_self_eq_false, Bool.false_eq_true, if_false]
    | wp_step)
  exact hq
theorem newK (F : ExcBaseFacts B newId initId bmB) (hT : bm.contains (.type B) = true ∧ bm.contains (.type "AttributeError") = false ∧ bm.contains (.type "NameError") = false) {rest : List Value} {arg : Str} {u : Value}
    (hC : h.get? C = some (excClassObj nm q C N bs bm hdct sn sub ab col dd k0 k1 k2 k3 k5 newId))
    (hq : R (.ok (.ret (.ref (h.objs.size + 1)))) ⟨(h.push (kdv_tup rest)).push (PySem.HandSPX.excO C h.objs.size), g, d, t, os⟩) (hrest : rest.length ≤ sizeLine) :
    codeAny (model prog w) A (.builtin newId ⟨.ref C :: rest, [(arg, u)]⟩) R ⟨h, g, d, t, os⟩ := by
  have e0 := F.ends
  have e1 : (Value.ref C :: bm).contains (.type B) = true := by rw [List.contains_cons, hT.1, Bool.or_true]
  have e2 : (Value.ref C :: bm).contains (.type "AttributeError") = false := by rw [List.contains_cons, hT.2.1] <;> rfl
  have e3 : (Value.ref C :: bm).contains (.type "NameError") = false := by rw [List.contains_cons, hT.2.2] <;> rfl
  refine codeAny_builtinAt F.entry ?_
  unfold Builtin.«BaseException.__new__»
  refine PySem.wpAt_bind ?_
  show PySem.wpAt _ _ _ (stack >>= _) _ _ _
  refine PySem.wpAt_bind (PySem.wpAt_stack fun p below => PySem.wpAt_of_wpAny ?_)
  wp_walk
  refine PySem.wpAt_of_wpAny ?_
  rw [F.owner]
  repeat (first
    | with_reducible refine wpAny_madeHere_exc F.canon hC ?_
    | with_reducible refine wpAny_loadPart_at hC ?_
    | (with_reducible refine wpAny_isSubtype_exc hC ?_; first | rw [e1] | rw [e2] | rw [e3])
    | wp_step)
  show R _ _
  rw [Heap.size_push]
  exact hq
theorem type_callK (F : ExcBaseFacts B newId initId bmB) (hT : bm.contains (.type B) = true ∧ bm.contains (.type "AttributeError") = false ∧ bm.contains (.type "NameError") = false) {rest : List Value} {arg : Str} {u : Value} {fI : Addr} {Q : PySem.Fin → Shared → Prop}
    (hC : h.get? C = some (excClassObj nm q C N bs bm hdct sn sub ab col dd k0 k1 k2 k3 k5 newId))
    (hi : Looks (model prog w) h (typeLookup (.ref C) "__init__") (some (.ref fI))) (hb : ∀ self, Looks (model prog w) h (bindSpecial (.ref fI) self) (.ref fI, [self])) (hrest : rest.length ≤ sizeLine)
    (hq : codeAny (model prog w) A (.call (.ref fI) ⟨.ref (h.objs.size + 1) :: rest, [(arg, u)]⟩)
      (fun r s' => match r with | .ok (.ret v) => v = .none ∧ Q (.done (.ret (.ref (h.objs.size + 1)))) s' | .ok _ => False | .error e => E e s')
      ⟨(h.push (kdv_tup rest)).push (PySem.HandSPX.excO C h.objs.size), g, d, t, os⟩) :
    wpAny (model prog w) A (Builtin.«type.__call__» ⟨.ref C :: rest, [(arg, u)]⟩) Q E ⟨h, g, d, t, os⟩ := by
  repeat (first
    | with_reducible refine wpAny_loadPart_at hC ?_
    | with_reducible refine wpAny_madeBy_exc hC ?_
    | wp_step)
  refine codeAny_call_builtin_code (Code.quiet_builtin _ F.quiet) (check_newK F hT hC ?_)
  refine newK F hT hC ?_ hrest
  show wpAny _ _ _ _ _ _
  have kp : ∀ b o, h.get? b = some o → ((h.push (kdv_tup rest)).push (PySem.HandSPX.excO C h.objs.size)).get? b = some o :=
    fun b o z => Heap.get?_push_of_some _ (Heap.get?_push_of_some _ z)
  have hC1 := kp _ _ hC
  have hget : ((h.push (kdv_tup rest)).push (PySem.HandSPX.excO C h.objs.size)).get? (h.objs.size + 1) = some (PySem.HandSPX.excO C h.objs.size) := by heap_get
  have hcC : (Value.ref C :: bm).contains (.ref C) = true := by simp
  have j1 := hi.keeps kp
  have j2 := (hb (.ref (h.objs.size + 1))).keeps kp
  unfold isInstance
  repeat (first
    | with_reducible refine wpAny_loadPart_at hget ?_
    | (with_reducible refine wpAny_isSubtype_exc hC1 ?_; rw [hcC])
    | wp_step)
  show wpAny _ _ (typeLookup (.ref C) _) _ _ _
  refine j1.at ?_
  refine wpAny_holding (wpAny_bind (j2.at ?_))
  refine wpAny_bind (wpAny_call (codeAny_mono hq fun r s' z => ?_))
  rcases r with e | (v | _ | _ | _) <;> first | exact z | exact z.elim | skip
  obtain ⟨rfl, z⟩ := z
  first
    | exact wpAny_pure (wpAny_pure z)
    | (wp_walk; exact z)
theorem check_typeK {rest : List Value} {arg : Str} {u : Value} {Q : Unit → Shared → Prop} (hC : h.get? C = some (excClassObj nm q C N bs bm hdct sn sub ab col dd k0 k1 k2 k3 k5 newId))
    (hq : Q () ⟨h, g, d, t, os⟩) : wpAny M A (checkBuiltinCall "type.__call__" ⟨.ref C :: rest, [(arg, u)]⟩) Q E ⟨h, g, d, t, os⟩ := by
  have f3 := tc_sub
  have hTy : (⟨h, g, d, t, os⟩ : Shared).TypeIs (.ref C) "type" := ⟨_, hC, rfl⟩
  simp only [checkBuiltinCall, tc_kind, tc_split]
  repeat (any_goals (first
    | assumption
    | with_reducible refine wpAny_loadPart_at hC ?_
    | with_reducible refine wpAny_onRaise ?_
    | with_reducible refine wpAny_map ?_
    | wp_step))
theorem callK (F : ExcBaseFacts B newId initId bmB) (hT : bm.contains (.type B) = true ∧ bm.contains (.type "AttributeError") = false ∧ bm.contains (.type "NameError") = false) {rest : List Value} {arg : Str} {u : Value} {fI : Addr}
    (hC : h.get? C = some (excClassObj nm q C N bs bm hdct sn sub ab col dd k0 k1 k2 k3 k5 newId))
    (hi : Looks (model prog w) h (typeLookup (.ref C) "__init__") (some (.ref fI))) (hb : ∀ self, Looks (model prog w) h (bindSpecial (.ref fI) self) (.ref fI, [self])) (hrest : rest.length ≤ sizeLine)
    (hq : codeAny (model prog w) (A.under (.builtin "type.__call__" ⟨.ref C :: rest, [(arg, u)]⟩)) (.call (.ref fI) ⟨.ref (h.objs.size + 1) :: rest, [(arg, u)]⟩) (InitBack (h.objs.size + 1) R)
      ⟨(h.push (kdv_tup rest)).push (PySem.HandSPX.excO C h.objs.size), g, d, t, os⟩) :
    codeAny (model prog w) A (.call (.ref C) ⟨rest, [(arg, u)]⟩) R ⟨h, g, d, t, os⟩ := by
  have f1 := tc_lookup
  have f2 := tc_bind (.ref C)
  have hTy : (⟨h, g, d, t, os⟩ : Shared).TypeIs (.ref C) "type" := ⟨_, hC, rfl⟩
  refine codeAny_of_tree ?_
  show wpAny _ _ (callAny (.ref C) _) _ _ _
  repeat (any_goals (first
    | assumption
    | with_reducible refine wpAny_loadPart_at hC ?_
    | wp_step))
  refine ⟨rfl, ?_⟩
  refine codeAny_call_builtin_at (Code.quiet_builtin _ (by decide +kernel)) entry_typeCall (check_typeK hC (type_callK F hT hC hi hb hrest ?_))
  refine codeAny_mono hq fun r s' z => ?_
  rcases r with e | (v | _ | _ | _) <;> exact z
theorem check_new0 (F : ExcBaseFacts B newId initId bmB) (hT : bm.contains (.type B) = true ∧ bm.contains (.type "AttributeError") = false ∧ bm.contains (.type "NameError") = false) {rest : List Value} {Q : Unit → Shared → Prop}
    (hC : h.get? C = some (excClassObj nm q C N bs bm hdct sn sub ab col dd k0 k1 k2 k3 k5 newId)) (hq : Q () ⟨h, g, d, t, os⟩) :
    wpAny M A (checkBuiltinCall newId ⟨.ref C :: rest, []⟩) Q E ⟨h, g, d, t, os⟩ := by
  have hB : (Value.ref C :: bm).contains (.type B) = true := by
    rw [List.contains_cons, hT.1, Bool.or_true]
  have hst := F.noStar
  simp only [checkBuiltinCall, F.newKind, F.newSplit, F.newRow]
  repeat (first
    | refine wpAny_loadPart_at hC ?_
    | (refine wpAny_isSubtype_exc hC ?_; rw [hB])
    | refine wpAny_staticBase_exc hC ?_
    | refine wpAny_madeBy_exc hC ?_
    | simp only [bne_self_eq_false, Bool.false_eq_true, if_false]
    | wp_step)
  exact hq
theorem new0 (F : ExcBaseFacts B newId initId bmB) (hT : bm.contains (.type B) = true ∧ bm.contains (.type "AttributeError") = false ∧ bm.contains (.type "NameError") = false) {rest : List Value}
    (hC : h.get? C = some (excClassObj nm q C N bs bm hdct sn sub ab col dd k0 k1 k2 k3 k5 newId))
    (hq : R (.ok (.ret (.ref (h.objs.size + 1)))) ⟨(h.push (kdv_tup rest)).push (PySem.HandSPX.excO C h.objs.size), g, d, t, os⟩) (hrest : rest.length ≤ sizeLine) :
    codeAny (model prog w) A (.builtin newId ⟨.ref C :: rest, []⟩) R ⟨h, g, d, t, os⟩ := by
  have e0 := F.ends
  have e1 : (Value.ref C :: bm).contains (.type B) = true := by rw [List.contains_cons, hT.1, Bool.or_true]
  have e2 : (Value.ref C :: bm).contains (.type "AttributeError") = false := by rw [List.contains_cons, hT.2.1] <;> rfl
  have e3 : (Value.ref C :: bm).contains (.type "NameError") = false := by rw [List.contains_cons, hT.2.2] <;> rfl
  refine codeAny_builtinAt F.entry ?_
  unfold Builtin.«BaseException.__new__»
  refine PySem.wpAt_bind ?_
  show PySem.wpAt _ _ _ (stack >>= _) _ _ _
  refine PySem.wpAt_bind (PySem.wpAt_stack fun p below => PySem.wpAt_of_wpAny ?_)
  wp_walk
  refine PySem.wpAt_of_wpAny ?_
  rw [F.owner]
  repeat (first
    | with_reducible refine wpAny_madeHere_exc F.canon hC ?_
    | with_reducible refine wpAny_loadPart_at hC ?_
    | (with_reducible refine wpAny_isSubtype_exc hC ?_; first | rw [e1] | rw [e2] | rw [e3])
    | wp_step)
  show R _ _
  rw [Heap.size_push]
  exact hq
theorem type_call0 (F : ExcBaseFacts B newId initId bmB) (hT : bm.contains (.type B) = true ∧ bm.contains (.type "AttributeError") = false ∧ bm.contains (.type "NameError") = false) {rest : List Value} {fI : Addr} {Q : PySem.Fin → Shared → Prop}
    (hC : h.get? C = some (excClassObj nm q C N bs bm hdct sn sub ab col dd k0 k1 k2 k3 k5 newId))
    (hi : Looks (model prog w) h (typeLookup (.ref C) "__init__") (some (.ref fI))) (hb : ∀ self, Looks (model prog w) h (bindSpecial (.ref fI) self) (.ref fI, [self])) (hrest : rest.length ≤ sizeLine)
    (hq : codeAny (model prog w) A (.call (.ref fI) ⟨.ref (h.objs.size + 1) :: rest, []⟩)
      (fun r s' => match r with | .ok (.ret v) => v = .none ∧ Q (.done (.ret (.ref (h.objs.size + 1)))) s' | .ok _ => False | .error e => E e s')
      ⟨(h.push (kdv_tup rest)).push (PySem.HandSPX.excO C h.objs.size), g, d, t, os⟩) :
    wpAny (model prog w) A (Builtin.«type.__call__» ⟨.ref C :: rest, []⟩) Q E ⟨h, g, d, t, os⟩ := by
  repeat (first
    | with_reducible refine wpAny_loadPart_at hC ?_
    | with_reducible refine wpAny_madeBy_exc hC ?_
    | wp_step)
  refine codeAny_call_builtin_code (Code.quiet_builtin _ F.quiet) (check_new0 F hT hC ?_)
  refine new0 F hT hC ?_ hrest
  show wpAny _ _ _ _ _ _
  have kp : ∀ b o, h.get? b = some o → ((h.push (kdv_tup rest)).push (PySem.HandSPX.excO C h.objs.size)).get? b = some o :=
    fun b o z => Heap.get?_push_of_some _ (Heap.get?_push_of_some _ z)
  have hC1 := kp _ _ hC
  have hget : ((h.push (kdv_tup rest)).push (PySem.HandSPX.excO C h.objs.size)).get? (h.objs.size + 1) = some (PySem.HandSPX.excO C h.objs.size) := by heap_get
  have hcC : (Value.ref C :: bm).contains (.ref C) = true := by simp
  have j1 := hi.keeps kp
  have j2 := (hb (.ref (h.objs.size + 1))).keeps kp
  unfold isInstance
  repeat (first
    | with_reducible refine wpAny_loadPart_at hget ?_
    | (with_reducible refine wpAny_isSubtype_exc hC1 ?_; rw [hcC])
    | wp_step)
  show wpAny _ _ (typeLookup (.ref C) _) _ _ _
  refine j1.at ?_
  refine wpAny_holding (wpAny_bind (j2.at ?_))
  refine wpAny_bind (wpAny_call (codeAny_mono hq fun r s' z => ?_))
  rcases r with e | (v | _ | _ | _) <;> first | exact z | exact z.elim | skip
  obtain ⟨rfl, z⟩ := z
  first
    | exact wpAny_pure (wpAny_pure z)
    | (wp_walk; exact z)
theorem check_type0 {rest : List Value} {Q : Unit → Shared → Prop} (hC : h.get? C = some (excClassObj nm q C N bs bm hdct sn sub ab col dd k0 k1 k2 k3 k5 newId))
    (hq : Q () ⟨h, g, d, t, os⟩) : wpAny M A (checkBuiltinCall "type.__call__" ⟨.ref C :: rest, []⟩) Q E ⟨h, g, d, t, os⟩ := by
  have f3 := tc_sub
  have hTy : (⟨h, g, d, t, os⟩ : Shared).TypeIs (.ref C) "type" := ⟨_, hC, rfl⟩
  simp only [checkBuiltinCall, tc_kind, tc_split]
  repeat (any_goals (first
    | assumption
    | with_reducible refine wpAny_loadPart_at hC ?_
    | with_reducible refine wpAny_onRaise ?_
    | with_reducible refine wpAny_map ?_
    | wp_step))
theorem call0 (F : ExcBaseFacts B newId initId bmB) (hT : bm.contains (.type B) = true ∧ bm.contains (.type "AttributeError") = false ∧ bm.contains (.type "NameError") = false) {rest : List Value} {fI : Addr}
    (hC : h.get? C = some (excClassObj nm q C N bs bm hdct sn sub ab col dd k0 k1 k2 k3 k5 newId))
    (hi : Looks (model prog w) h (typeLookup (.ref C) "__init__") (some (.ref fI))) (hb : ∀ self, Looks (model prog w) h (bindSpecial (.ref fI) self) (.ref fI, [self])) (hrest : rest.length ≤ sizeLine)
    (hq : codeAny (model prog w) (A.under (.builtin "type.__call__" ⟨.ref C :: rest, []⟩)) (.call (.ref fI) ⟨.ref (h.objs.size + 1) :: rest, []⟩) (InitBack (h.objs.size + 1) R)
      ⟨(h.push (kdv_tup rest)).push (PySem.HandSPX.excO C h.objs.size), g, d, t, os⟩) :
    codeAny (model prog w) A (.call (.ref C) ⟨rest, []⟩) R ⟨h, g, d, t, os⟩ := by
  have f1 := tc_lookup
  have f2 := tc_bind (.ref C)
  have hTy : (⟨h, g, d, t, os⟩ : Shared).TypeIs (.ref C) "type" := ⟨_, hC, rfl⟩
  refine codeAny_of_tree ?_
  show wpAny _ _ (callAny (.ref C) _) _ _ _
  repeat (any_goals (first
    | assumption
    | with_reducible refine wpAny_loadPart_at hC ?_
    | wp_step))
  refine ⟨rfl, ?_⟩
  refine codeAny_call_builtin_at (Code.quiet_builtin _ (by decide +kernel)) entry_typeCall (check_type0 hC (type_call0 F hT hC hi hb hrest ?_))
  refine codeAny_mono hq fun r s' z => ?_
  rcases r with e | (v | _ | _ | _) <;> exact z
end
end TS
namespace TS
open PySem PySem.Spec PyProof.Rows PySem.W PySem.Calls L2
/-- the heap with a new error of the class at C, its attribute fld is v -/
def errH (H : Hp) (a dx C : Addr) (fld : Str) (v : V) : Hp := upd (upd H dx (exd dx [(fld, v)])) a (exo a C (some dx))
theorem errH_of {H : Hp} {a dx C : Addr} {fld : Str} {v : V} (ne : dx ≠ a) : upd (upd (upd H a (exo a C none)) dx (exd dx [(fld, v)])) a (exo a C (some dx)) = errH H a dx C fld v := by
  funext b
  unfold errH
  by_cases hb : b = a
  · rw [hb, upd_same, upd_same]
  · rw [upd_ne hb, upd_ne hb]
    by_cases hd : b = dx
    · rw [hd, upd_same, upd_same]
    · rw [upd_ne hd, upd_ne hd, upd_ne hb]
/-- C(e): a new error -/
def tErr (C : Addr) (fld : Str) (te : TE) : TE := fun σ H Q => te σ H fun v H1 => ∀ a dx, H1 a = none → H1 dx = none → dx ≠ a → Q (.ref a) (errH H1 a dx C fld v)
section
variable {X : Cx} {e : Expr} {te : TE} {p pos kpos : Pos} {x arg fld : Str} {C fI : Addr} {k : Nat} {fd : FuncData} {B newId initId : String} {bmB : List Value}
/-- the call of the class, positional -/
theorem run_err {nm qn : Str} {N : Addr} {bs bm sub : List Value} {sn : List Str} {ab : Bool} {col : Option Bool} {dd : Option Addr} {k0 k1 k2 k3 k5 : Option Value} {pins : List (Addr × Obj)} {σ : L2.St} {H1 : Hp} {Q : VK} {s1 : Shared} {v : V} {u : Value}
    (T : ErrK X.K C B newId initId bmB) (hC : X.K.lookup C = some (excClassObj nm qn C N bs bm true sn sub ab col dd k0 k1 k2 k3 k5 newId)) (hbm : excTail bmB bm = true)
    (iC : findIn X.K (.ref C) "__init__" = some (some (.ref fI))) (tI : typeIn X.K (.ref fI) = some (.type "function"))
    (F1 : FnOk X.prog X.w X.K X.mg X.base CX0 k fI fd ["self", arg] (spIni C fld)) (hr : Room (k + 1) X.A) (I1 : Inv X pins σ H1 s1) (rv : RelV v u)
    (hb : ∀ (s2 : Shared) , X.K.In s2.heap → BindsTo s2 fd ⟨[Value.ref (s1.heap.objs.size + 1), u], []⟩ ((["self", arg] : List Str).zip [Value.ref (s1.heap.objs.size + 1), u]))
    (q : ∀ a, H1 a = none → ∀ dx, H1 dx = none → dx ≠ a → Q (.ref a) (errH H1 a dx C fld v)) :
    wpAny (model X.prog X.w) X.A (call (.ref C) [u]) (EP X pins σ Q) X.xe s1 := by
  obtain ⟨Bn, iN, bmN, NF, hB⟩ := T.NF
  have hT : bm.contains (.type Bn) = true ∧ bm.contains (.type "AttributeError") = false ∧ bm.contains (.type "NameError") = false :=
    ⟨(excTail_contains _ bm hbm).trans hB, (excTail_contains _ bm hbm).trans T.noA, (excTail_contains _ bm hbm).trans T.noN⟩
  obtain ⟨hp, g, dr, tk, os⟩ := s1
  have hsz : hp.objs.size ≤ hp.objs.size + 1 := Nat.le_succ _
  have hn : H1 (hp.objs.size + 1) = none := I1.hok.fresh hsz
  have kk : ∀ b o, hp.get? b = some o → ((hp.push (kdv_tup [u])).push (PySem.HandSPX.excO C hp.objs.size)).get? b = some o :=
    fun b o z => Heap.get?_push_of_some _ (Heap.get?_push_of_some _ z)
  have hget : ((hp.push (kdv_tup [u])).push (PySem.HandSPX.excO C hp.objs.size)).get? (hp.objs.size + 1) = some (PySem.HandSPX.excO C hp.objs.size) := by heap_get
  have I2 : Inv X pins σ (upd H1 (hp.objs.size + 1) (exo (hp.objs.size + 1) C none)) ⟨(hp.push (kdv_tup [u])).push (PySem.HandSPX.excO C hp.objs.size), g, dr, tk, os⟩ :=
    I1.laid (t' := tk) (a := hp.objs.size + 1) (o := exo (hp.objs.size + 1) C none) (h' := (hp.push (kdv_tup [u])).push (PySem.HandSPX.excO C hp.objs.size)) kk hsz (exo_ok hget)
  refine wpAny_call (call0 NF hT (I1.kIn _ _ hC) (looks_findIn I1.kIn iC) (fun self => bind_fn I1.kIn self tI) (by show 1 ≤ sizeLine; decide)
    (codeAny_mono (F1.run _ X.stack _ _ ⟨[Value.ref (hp.objs.size + 1), u], []⟩ [Value.ref (hp.objs.size + 1), u] [.ref (hp.objs.size + 1), v] (fun y H2 => y = .non ∧ Q (.ref (hp.objs.size + 1)) H2) (fun _ _ _ => False)
      (hr.make C [u] []) (I2.env0.make C [u] []) (hb _ I2.kIn) (.cons rfl (.cons rv .nil)) ⟨_, v, rfl, upd_same, fun dx hd ne => ⟨rfl, ?_⟩⟩) fun r s' hq' => ?_))
  · rw [errH_of ne]
    exact q _ hn dx (by rw [upd_ne ne] at hd; exact hd) ne
  · cases r with
    | error er => exact hq'.elim
    | ok fl =>
      cases fl with
      | ret u' =>
        obtain ⟨y, H2, J, ry, ey, q2⟩ := I2.after hq'
        subst ey
        exact ⟨ry, .ref _, H2, J, rfl, q2⟩
      | next => exact False.elim hq'
      | brk => exact False.elim hq'
      | cont => exact False.elim hq'
theorem pe_err (T : ErrK X.K C B newId initId bmB) (iC : findIn X.K (.ref C) "__init__" = some (some (.ref fI))) (tI : typeIn X.K (.ref fI) = some (.type "function"))
    (F1 : FnOk X.prog X.w X.K X.mg X.base CX0 k fI fd ["self", arg] (spIni C fld)) (hr : Room (k + 1) X.A) (hb : Binds X.K fd ["self", arg] []) (hg : Gl X x) (hm : X.mg x = some (.ref C)) (he : PE X e te)
    (hdb : (x == ("__debug__" : Str)) = false := by decide) (hs : starEach [e] X.env = (false, eval e X.env) :: starEach [] X.env := by rfl) :
    PE X (.Call (.Name x p) [e] [] pos) (tErr C fld te) := by
  refine ⟨fun pins s σ H Q I h => ?_⟩
  obtain ⟨nm, qn, N, bs, bm, sn, sub, ab, col, dd, k0, k1, k2, k3, k5, hC, hbm⟩ := T.cls
  refine wpAny_Call_Name_kw (ld_glob I hg hm ?_ hdb)
  have hA : PA X [e] (tCons te tNil) := pa_cons he pa_nil hs
  refine callWith_K (h₀ := X.base) I.ok.mod.kin T.kC (thn (hA.run pos pins s σ H (fun vs H1 => match vs with
    | [v] => ∀ a dx, H1 a = none → H1 dx = none → dx ≠ a → Q (.ref a) (errH H1 a dx C fld v)
    | _ => False) I h) fun us s1 ⟨vs, H1, I1, r1, q1⟩ => ⟨I1.kIn, ?_⟩) hs rfl
  obtain ⟨v, u, rfl, rfl, rv⟩ : ∃ v u, vs = [v] ∧ us = [u] ∧ RelV v u := by
    cases r1 with
    | nil => exact q1.elim
    | cons ra rr =>
      cases rr with
      | nil => exact ⟨_, _, rfl, rfl, ra⟩
      | cons _ _ => exact q1.elim
  exact run_err T hC hbm iC tI F1 hr I1 rv (fun hp2 kin => hb _ _ kin rfl) (fun a hn dx hd ne => q1 a dx hn hd ne)
end
end TS
namespace TS
open PySem PySem.Spec PyProof.Rows PySem.W PySem.Calls L2
section
variable {X : Cx} {e : Expr} {te : TE} {p pos kpos : Pos} {x arg fld : Str} {C fI : Addr} {k : Nat} {fd : FuncData} {B newId initId : String} {bmB : List Value}
/-- the call of the class, by keyword -/
theorem run_errK {nm qn : Str} {N : Addr} {bs bm sub : List Value} {sn : List Str} {ab : Bool} {col : Option Bool} {dd : Option Addr} {k0 k1 k2 k3 k5 : Option Value} {pins : List (Addr × Obj)} {σ : L2.St} {H1 : Hp} {Q : VK} {s1 : Shared} {v : V} {u : Value}
    (T : ErrK X.K C B newId initId bmB) (hC : X.K.lookup C = some (excClassObj nm qn C N bs bm true sn sub ab col dd k0 k1 k2 k3 k5 newId)) (hbm : excTail bmB bm = true)
    (iC : findIn X.K (.ref C) "__init__" = some (some (.ref fI))) (tI : typeIn X.K (.ref fI) = some (.type "function"))
    (F1 : FnOk X.prog X.w X.K X.mg X.base CX0 k fI fd ["self", arg] (spIni C fld)) (hr : Room (k + 1) X.A) (I1 : Inv X pins σ H1 s1) (rv : RelV v u)
    (hb : ∀ (s2 : Shared) (o : Addr), BindsTo s2 fd ⟨[Value.ref o], [(arg, u)]⟩ ((["self", arg] : List Str).zip [Value.ref o, u]))
    (q : ∀ a, H1 a = none → ∀ dx, H1 dx = none → dx ≠ a → Q (.ref a) (errH H1 a dx C fld v)) :
    wpAny (model X.prog X.w) X.A (call (.ref C) [] [(arg, u)]) (EP X pins σ Q) X.xe s1 := by
  obtain ⟨Bn, iN, bmN, NF, hB⟩ := T.NF
  have hT : bm.contains (.type Bn) = true ∧ bm.contains (.type "AttributeError") = false ∧ bm.contains (.type "NameError") = false :=
    ⟨(excTail_contains _ bm hbm).trans hB, (excTail_contains _ bm hbm).trans T.noA, (excTail_contains _ bm hbm).trans T.noN⟩
  obtain ⟨hp, g, dr, tk, os⟩ := s1
  have hsz : hp.objs.size ≤ hp.objs.size + 1 := Nat.le_succ _
  have hn : H1 (hp.objs.size + 1) = none := I1.hok.fresh hsz
  have kk : ∀ b o, hp.get? b = some o → ((hp.push (kdv_tup [])).push (PySem.HandSPX.excO C hp.objs.size)).get? b = some o :=
    fun b o z => Heap.get?_push_of_some _ (Heap.get?_push_of_some _ z)
  have hget : ((hp.push (kdv_tup [])).push (PySem.HandSPX.excO C hp.objs.size)).get? (hp.objs.size + 1) = some (PySem.HandSPX.excO C hp.objs.size) := by heap_get
  have I2 : Inv X pins σ (upd H1 (hp.objs.size + 1) (exo (hp.objs.size + 1) C none)) ⟨(hp.push (kdv_tup [])).push (PySem.HandSPX.excO C hp.objs.size), g, dr, tk, os⟩ :=
    I1.laid (t' := tk) (a := hp.objs.size + 1) (o := exo (hp.objs.size + 1) C none) (h' := (hp.push (kdv_tup [])).push (PySem.HandSPX.excO C hp.objs.size)) kk hsz (exo_ok hget)
  refine wpAny_call (callK NF hT (I1.kIn _ _ hC) (looks_findIn I1.kIn iC) (fun self => bind_fn I1.kIn self tI) (by show 0 ≤ sizeLine; decide)
    (codeAny_mono (F1.run _ X.stack _ _ ⟨[Value.ref (hp.objs.size + 1)], [(arg, u)]⟩ [Value.ref (hp.objs.size + 1), u] [.ref (hp.objs.size + 1), v] (fun y H2 => y = .non ∧ Q (.ref (hp.objs.size + 1)) H2) (fun _ _ _ => False)
      (hr.make C [] [(arg, u)]) (I2.env0.make C [] [(arg, u)]) (hb _ _) (.cons rfl (.cons rv .nil)) ⟨_, v, rfl, upd_same, fun dx hd ne => ⟨rfl, ?_⟩⟩) fun r s' hq' => ?_))
  · rw [errH_of ne]
    exact q _ hn dx (by rw [upd_ne ne] at hd; exact hd) ne
  · cases r with
    | error er => exact hq'.elim
    | ok fl =>
      cases fl with
      | ret u' =>
        obtain ⟨y, H2, J, ry, ey, q2⟩ := I2.after hq'
        subst ey
        exact ⟨ry, .ref _, H2, J, rfl, q2⟩
      | next => exact False.elim hq'
      | brk => exact False.elim hq'
      | cont => exact False.elim hq'
theorem pe_errK (T : ErrK X.K C B newId initId bmB) (iC : findIn X.K (.ref C) "__init__" = some (some (.ref fI))) (tI : typeIn X.K (.ref fI) = some (.type "function"))
    (F1 : FnOk X.prog X.w X.K X.mg X.base CX0 k fI fd ["self", arg] (spIni C fld)) (hr : Room (k + 1) X.A)
    (hb : ∀ (s2 : Shared) (o : Addr) (u : Value), BindsTo s2 fd ⟨[Value.ref o], [(arg, u)]⟩ ((["self", arg] : List Str).zip [Value.ref o, u]))
    (hg : Gl X x) (hm : X.mg x = some (.ref C)) (he : PE X e te) (hdb : (x == ("__debug__" : Str)) = false := by decide) :
    PE X (.Call (.Name x p) [] [⟨some arg, e, kpos⟩] pos) (tErr C fld te) := by
  refine ⟨fun pins s σ H Q I h => ?_⟩
  obtain ⟨nm, qn, N, bs, bm, sn, sub, ab, col, dd, k0, k1, k2, k3, k5, hC, hbm⟩ := T.cls
  refine wpAny_Call_Name_kw (ld_glob I hg hm ?_ hdb)
  have hA : PK X [⟨some arg, e, kpos⟩] (tCons te tNil) := pk_cons he pk_nil
  refine callWith_KW0 (h₀ := X.base) I.ok.mod.kin T.kC rfl ?_ rfl
  refine thn (hA.run pos pins s σ H (fun vs H1 => match vs with
    | [v] => ∀ a dx, H1 a = none → H1 dx = none → dx ≠ a → Q (.ref a) (errH H1 a dx C fld v)
    | _ => False) I h) fun us s1 ⟨vs, H1, I1, r1, q1⟩ => ⟨I1.kIn, ?_⟩
  obtain ⟨v, u, rfl, rfl, rv⟩ : ∃ v u, vs = [v] ∧ us = [u] ∧ RelV v u := by
    cases r1 with
    | nil => exact q1.elim
    | cons ra rr =>
      cases rr with
      | nil => exact ⟨_, _, rfl, rfl, ra⟩
      | cons _ _ => exact q1.elim
  exact run_errK T hC hbm iC tI F1 hr I1 rv (fun s2 o => hb s2 o u) (fun a hn dx hd ne => q1 a dx hn hd ne)
/-- e.f of an error that was made here -/
def tErrF (K : Frag) (f : Str) (te : TE) : TE := fun σ H Q => te σ H fun y H1 => ∃ (a dx C : Addr) (fs : List (Str × V)) (v : V), y = .ref a ∧ H1 a = some (exo a C (some dx)) ∧ H1 dx = some (exd dx fs) ∧
  fs.lookup f = some v ∧ XfC K C ∧ findIn K (.ref C) f = some none ∧ Q v H1
theorem err_inst {pins : List (Addr × Obj)} {σ : L2.St} {H1 : Hp} {s1 : Shared} {a dx : Addr} {fs : List (Str × V)} (I1 : Inv X pins σ H1 s1) (ea : H1 a = some (exo a C (some dx))) (ed : H1 dx = some (exd dx fs)) :
    ∃ (ox od : Obj) (mA : Str → Option Value), InstAt s1.heap a ox C (some od) ∧ (∀ f, RelO (fs.lookup f) (mA f)) ∧ ∀ n, lookIn n od = some (mA n) := by
  obtain ⟨t1, ho⟩ := exo_at I1.hok ea
  obtain ⟨mA, hns, rel⟩ := exd_at I1.hok ed
  obtain ⟨od, hod, hl⟩ := lookIn_ns hns
  exact ⟨_, od, mA, ⟨ho, rfl, rfl, hod⟩, rel, hl⟩
theorem pe_errF {f : Str} (he : PE X e te) (hb : attributeBase e f X.env (eval e X.env) = eval e X.env := by rfl) : PE X (.Attribute e f pos) (tErrF X.K f te) := by
  refine ⟨fun pins s σ H Q I h => ?_⟩
  refine attr_of hb (thn (he.run pins s σ H _ I h) fun u s1 hh => ?_)
  obtain ⟨y, H1, I1, ry, a, dx, C, fs, v, ey, ea, ed, l, T, hno, q⟩ := hh
  subst ey
  obtain rfl : u = Value.ref a := ry
  obtain ⟨ox, od, mA, J, rel, hl⟩ := err_inst I1 ea ed
  obtain ⟨u, hu, ru⟩ := RelO.some_of (v := v) (o := mA f) (by rw [← l]; exact rel f)
  exact PySem.HandSPX.exc_get I1.kIn J T.ga T.gg T.exC (findObj_own T.hdC hno rfl (by rw [hl, hu])) (handed_of ru) ⟨v, H1, I1.tok _, ru, q⟩
/-- what isinstance asks of an own error's class -/
structure IsX (K : Frag) (C : Addr) : Prop where
  x : XfC K C
  hcl : (clsIn K C).isSome = true
  ha : findIn K (.ref C) "__class__" = some (some (.builtin "object.__class__"))
  hn : specialIn K (.builtin "object.__class__") "__get__" = some (some (.builtin "getset_descriptor.__get__"))
  htk : takesIn K (.builtin "object.__class__") = some true
  hm : mroIn K C (.type "object") = some true
/-- isinstance(e, c) of an error that was made here -/
def rIsX (K : Frag) : List V → Hp → VK → Prop := fun xs H Q => ∃ (a dx C : Addr) (fs : List (Str × V)) (c : V) (cv : Value) (b : Bool), xs = [.ref a, c] ∧ H a = some (exo a C (some dx)) ∧ H dx = some (exd dx fs) ∧
  IsX K C ∧ ClsV c cv ∧ kitOne K (.ref C) cv = some b ∧ Q (.bl b) H
theorem call_isX : CallR X (.builtin "isinstance") (rIsX X.K) := by
  intro pins s σ H xs us Q I r h
  obtain ⟨a, dx, C, fs, c, cv, b, rfl, ea, ed, T, kc, ek, q⟩ := h
  obtain ⟨u1, u2, rfl, r1, r2⟩ := vals2 r
  have e2 := kc.eq r2
  subst e2
  obtain rfl : u1 = Value.ref a := r1
  obtain ⟨ox, od, mA, J, _, _⟩ := err_inst I ea ed
  exact kia_one (kitx_exc T.hcl T.x.ga T.x.gg T.x.exC T.ha T.hn T.htk T.hm) I.kIn J ek (fun z => nomatch z) fun tk => ⟨.bl b, H, I.tok tk, rfl, q⟩
/-- isinstance(e, (c, ..)) of an error that was made here, the tuple just laid -/
def rIsXT (K : Frag) : List V → Hp → VK → Prop := fun xs H Q => ∃ (a dx C tp : Addr) (fs : List (Str × V)) (cs : List V) (cvs : List Value) (b : Bool), xs = [.ref a, .ref tp] ∧ H a = some (exo a C (some dx)) ∧ H dx = some (exd dx fs) ∧
  IsX K C ∧ H tp = some (.tup cs) ∧ Paired ClsV cs cvs ∧ kitAny K (.ref C) cvs = some b ∧ Q (.bl b) H
theorem call_isXT : CallR X (.builtin "isinstance") (rIsXT X.K) := by
  intro pins s σ H xs us Q I r h
  obtain ⟨a, dx, C, tp, fs, cs, cvs, b, rfl, ea, ed, T, hT, kc, ek, q⟩ := h
  obtain ⟨u1, u2, rfl, r1, r2⟩ := vals2 r
  obtain rfl : u2 = Value.ref tp := r2
  obtain rfl : u1 = Value.ref a := r1
  obtain ⟨ox, od, mA, J, _, _⟩ := err_inst I ea ed
  obtain ⟨_, its, rv, o, h1, h2, n, h3⟩ := (show ObjOk X.prog X.w H s.heap tp (.tup cs) from I.hok tp _ hT)
  have e3 := ClsV.all kc rv
  subst e3
  obtain ⟨oc, od', dt, sl⟩ := o
  simp only at h2 h3
  subst h2 h3
  exact kia_tup (kitx_exc T.hcl T.x.ga T.x.gg T.x.exC T.ha T.hn T.htk T.hm) I.kIn J h1 ek (fun z => nomatch z) fun tk => ⟨.bl b, H, I.tok tk, rfl, q⟩
/-- repr of a list or a tuple of data, where nothing is being shown -/
def rRepr (K : Frag) : List V → Hp → VK → Prop := fun xs H Q => ∃ (a : Addr) (dt : PyData), xs = [.ref a] ∧ Dp K H (.ref a) dt ∧ dt.showable = true ∧ dt.hasDict = false ∧ dt.depth ≤ 20 ∧ dt.shown.length ≤ sizeLine ∧ Q (.str dt.shown) H
theorem call_reprD {j : Nat} (hg : X.A.guards = some []) (hr : Room j X.A) : CallR X (.builtin "repr") (rRepr X.K) := by
  intro pins s σ H xs us Q I r h
  obtain ⟨a, dt, rfl, hd, hs, hn, hdp, hz, q⟩ := h
  obtain ⟨u1, rfl, r1⟩ : ∃ u1, us = [u1] ∧ RelV (.ref a) u1 := by
    cases r with
    | cons ra rr =>
      cases rr
      exact ⟨_, rfl, ra⟩
  obtain rfl : u1 = Value.ref a := r1
  obtain ⟨as, rd⟩ := Dp.reads I dt _ _ hd (show RelV (.ref a) (Value.ref a) from rfl)
  have hu := hr.un
  refine repr_of_reads' rd hs (fun z => by rw [hn] at z; cases z) hg (by omega) (fun b o z => z) (fun h' u tk hk => ?_) hz
  exact ⟨.str dt.shown, H, I.un (t' := tk) (Un.kept hk) (I.hok.kept hk), ⟨u, rfl⟩, q⟩
end
end TS
namespace TS
open PySem PySem.Spec PyProof.Rows PySem.W PySem.Calls L2
/-- the def at f keeps sp where nothing is being shown (no repr under way) -/
structure FnG (P : Program) (w : World) (K : Frag) (mg : Str → Option Value) (base : Heap) (k : Nat) (f : Addr) (fd : FuncData) (ps : List Str) (sp : Sp) : Prop where
  len : ∀ vs H Q E, sp vs H Q E → vs.length = ps.length
  run : ∀ (A : Around) (outer : List Env) (s : Shared) (H : Hp) (args : Args) (us : List Value) (vs : List V) (Q : VK) (E : XK), A.guards = some [] → Room k A → Env0 P w K mg base A outer s H → BindsTo s fd args (ps.zip us) → Vals vs us → sp vs H Q E →
    codeAny (model P w) A (.call (.ref f) args) (CR CX0 outer P w H s Q E) s
section
variable {P : Program} {w : World} {K : Frag} {mg : Str → Option Value} {base : Heap}
theorem okG {x qual : Str} {st : Stmt} {f : Addr} {fd : FuncData} {N ps : List Str} {k : Nat} {sp : Sp} (F : Fun K x qual st f fd) (S : FnScope N ps (defScope st)) (len : ∀ vs H Q E, sp vs H Q E → vs.length = ps.length)
    (hbody : ∀ (cdv : Value) (A : Around) (outer : List Env) (s : Shared) (H : Hp) (vs : List V) (Q : VK) (E : XK), A.guards = some [] → Room k (A.deeper (envOfC qual (defScope st) s.heap.objs.size f cdv)) → sp vs H Q E →
      ∃ t, PSs (cxOf CX0 P w K mg base N qual (defScope st) f cdv A outer s H E).nox (defBody st) t ∧ t { nx := fun _ H' => Q .non H', rt := Q } (start N vs) H) : FnG P w K mg base (k + 1) f fd ps sp := by
  obtain ⟨oc, od, kV, doc, pm, an, cdv, ct, osl, rfl, lk, hcd⟩ := F.ex
  refine ⟨len, fun A outer s H args us vs Q E hg hr e0 hb r hsp => ?_⟩
  have hl := len _ _ _ _ hsp
  have KX : K.In s.heap := e0.mod.kin.keeps fun b o z => (e0.bs b o z).1
  have nolim : s.heap.NoLimit := e0.mod.nolimit.keeps fun b o z => (e0.bs b o z).1
  have kinds : ∀ y ∈ ps.zip us, (defScope st).names.lookup y.1 = some .local ∨ ((defScope st).names.lookup y.1 = some .cell ∧ ((cellsFrom (s.heap.objs.size + 1) (defScope st).names []).lookup y.1).isSome = true) := fun ⟨n, v⟩ hy => by
    rcases S.par n (List.of_mem_zip hy).1 with z | z
    · exact .inl z
    · exact .inr ⟨z, cellsFrom_some _ _ _ (.inl z)⟩
  refine codeAny_call_function hr.depth (KX _ _ lk) rfl S.co S.gen rfl (codeRec_of KX hcd) (hb _ _ _ _ ?_)
  refine wpAny_newFunctionEnv_cells S.kind kinds fun env he s1 ic => ?_
  subst he
  refine ⟨nolim.keeps ic.toInCall.keep, codeAny_func ?_⟩
  obtain ⟨t, ht, hq⟩ := hbody cdv A outer s H vs Q E hg (hr.deeper _) hsp
  have J : Inv (cxOf CX0 P w K mg base N qual (defScope st) f cdv A outer s H E) [] (start N vs) H s1 := inv_start S hr.hd e0 hl r ic
  refine wpAny_mono (ht.nox.run [] s1 (start N vs) H _ J hq) (fun fl s' hs => ?_) fun er s' hs => hs
  have fin : ∀ {σ' : L2.St} {H' : Hp} {v : V} {u : Value}, Inv (cxOf CX0 P w K mg base N qual (defScope st) f cdv A outer s H E) [] σ' H' s' → RelV v u → Q v H' → CE outer P w H s Q u s' :=
    fun {σ' H' v u} J' rv z => ⟨v, H', J'.os, J'.bare, J'.base, J'.hok, rv, z⟩
  cases fl with
  | ret u =>
    obtain ⟨v, σ', H', J', rv, z⟩ := hs
    exact fin J' rv z
  | next =>
    obtain ⟨σ', H', J', z⟩ := hs
    exact fin (v := V.non) (u := Value.none) J' rfl z
  | brk =>
    obtain ⟨_, _, _, z⟩ := hs
    exact False.elim z
  | cont =>
    obtain ⟨_, _, _, z⟩ := hs
    exact False.elim z
end
section
variable {X : Cx} {k : Nat} {f : Addr} {fd : FuncData} {ps : List Str} {sp : Sp} {E : XK} {x : Str} {p pos : Pos} {e : Expr} {es : List Expr} {t : TA}
theorem pe_callG (F : FnG X.prog X.w X.K X.mg X.base k f fd ps sp) (hG : X.A.guards = some []) (hr : Room k X.A) (hg : Gl X x) (hm : X.mg x = some (.ref f)) (hk : keepIn X.K (.ref f) = true) (hb : Binds X.K fd ps [])
    (ha : PA X (e :: es) t) (hdb : (x == ("__debug__" : Str)) = false := by decide) (he : starEach (e :: es) X.env = (false, eval e X.env) :: starEach es X.env := by rfl) (hpl : (backTo pos (starEach es X.env)).any (·.1) = false := by rfl) :
    PE X (.Call (.Name x p) (e :: es) [] pos) (tCall sp [] E t) := by
  refine ⟨fun pins s σ H Q I h => ?_⟩
  refine wpAny_Call_Name_kw (ld_glob I hg hm ?_ hdb)
  refine callWith_K (h₀ := X.base) I.ok.mod.kin hk (thn (ha.run pos pins s σ H _ I h) fun us s1 ⟨vs, H1, I1, r, q⟩ => ⟨I1.kIn, ?_⟩) he hpl
  have r2 : Vals (vs ++ []) (us ++ []) := r.append .nil
  have hl : (us ++ []).length = ps.length := by
    rw [← r2.length]
    exact F.len _ _ _ _ q
  refine wpAny_call (codeAny_mono (F.run X.A X.stack s1 H1 ⟨us, []⟩ (us ++ []) (vs ++ []) Q E hG hr I1.env0 (hb s1 us I1.kIn hl) r2 q) fun r' s' hq => ?_)
  cases r' with
  | error er => exact hq.elim
  | ok fl =>
    cases fl with
    | ret u => exact I1.after hq
    | next => exact False.elim hq
    | brk => exact False.elim hq
    | cont => exact False.elim hq
end
end TS
namespace TS
open PySem PySem.Spec PyProof.Rows PySem.W PySem.Calls L2
theorem law_callG {P : Program} {w : World} {K : Frag} {mg mb : Str → Option Value} {k : Nat} {fa a : Addr} {fd : FuncData} {x : Str} {sp : Sp} {s1 : Shared} {vs : List Value} {ns : List Int}
    (KX : K.In s1.heap) (hns : s1.heap.Ns mainGlobals mg) (hb : s1.heap.Ns builtinsNs mb) (hbb : ∀ x : Str, x ≠ "__name__" → mb x = bootBuiltins x) (hlim : s1.heap.NoLimit) (hg : s1.gens = #[])
    (ha : s1.heap.get? a = some { cls := .type "list", data := .seq vs.toArray }) (hi : IntsAre vs ns) (hl : ns.length ≤ sizeLine) (hr : Room k callerA)
    (F : ∀ base : Heap, K.In base → base.Ns mainGlobals mg → FnG P w K mg base k fa fd [x] sp) (hbind : ∀ (s : Shared) (u : Value), BindsTo s fd ⟨[u], []⟩ [(x, u)])
    (hsp : ∀ H : Hp, Only H → SqL K H a (ns.map V.int) → sp [.ref a] H (fun v _ => v = .bl true) fun _ _ _ => False) :
    codeAny (model P w) callerA (.call (.ref fa) ⟨[.ref a], []⟩) (fun r s' => r = .ok (.ret (.bool true)) ∧ OldK s1.heap s'.heap ∧ s'.os = s1.os ∧ AllBare s'.gens) s1 := by
  have rv := vals_ints hi
  have lenV := hi.length
  have core : ∀ H : Hp, Only H → SqL K H a (ns.map V.int) → HOk P w H s1.heap → (∀ b, H b ≠ none → b = a) → (H a ≠ none → K.lookup a = none) →
      codeAny (model P w) callerA (.call (.ref fa) ⟨[.ref a], []⟩) (fun r s' => r = .ok (.ret (.bool true)) ∧ OldK s1.heap s'.heap ∧ s'.os = s1.os ∧ AllBare s'.gens) s1 := by
    intro H hO hS hok hA hK
    have lay : ∀ {b : Addr} {o : Obj}, s1.heap.get? b = some o → H b = none → (hidT s1.heap H).get? b = some o := fun z n => hidT_get z n
    have dic : ∀ {b : Addr} {o : Obj} {es : Array DictEntry} {ep : Nat}, s1.heap.get? b = some o → o.data = .dict es ep → H b = none := fun {b o es ep} z y => by
      cases c : H b with
      | none => rfl
      | some u =>
        have e' : b = a := hA b (by rw [c]; simp)
        subst e'
        rw [ha] at z
        cases z
        have y' : Data.seq vs.toArray _ = Data.dict es ep := y
        cases y'
    have nsK : ∀ {b : Addr} {m : Str → Option Value}, s1.heap.Ns b m → (hidT s1.heap H).Ns b m := fun {b m} ⟨o, es, ep, z, y, r⟩ => ⟨o, es, ep, lay z (dic z y), y, r⟩
    have hKb : K.In (hidT s1.heap H) := fun b o z => lay (KX b o z) (by
      cases c : H b with
      | none => rfl
      | some u =>
        have e' : b = a := hA b (by rw [c]; simp)
        subst e'
        rw [hK (by rw [c]; simp)] at z
        cases z)
    have hM : Mod K mg (hidT s1.heap H) := ⟨hKb, nsK hns, ⟨mb, nsK hb, hbb⟩, let ⟨mc, h1, h2⟩ := hlim; ⟨mc, nsK h1, h2⟩⟩
    have e0 : Env0 P w K mg (hidT s1.heap H) callerA [] s1 H :=
      ⟨rfl, hM, fun b o z => of_hidT z, Nat.le_of_eq (hidT_size _ _), trivial, fun b z => absurd (show b ∈ ([] : List Addr) from z) (by simp), hok, .of_eq hg⟩
    have go := (F _ hKb (nsK hns)).run callerA [] s1 H ⟨[.ref a], []⟩ [.ref a] [.ref a] _ _ rfl hr e0 (hbind s1 (.ref a)) (.cons rfl .nil) (hsp H hO hS)
    refine codeAny_mono go fun r s' h => ?_
    cases r with
    | error er => exact h.elim
    | ok fl =>
      cases fl with
      | next => exact False.elim h
      | brk => exact False.elim h
      | cont => exact False.elim h
      | ret u =>
        obtain ⟨v, H', os, bare, un, hok', r', q⟩ := h
        have q' : v = .bl true := q
        subst q'
        obtain rfl : u = Value.bool true := r'
        refine ⟨rfl, OldK.of_keep fun b o z => ?_, os, bare⟩
        cases c : H b with
        | none => exact un.keep b o z c (fun y => absurd (show b ∈ ([] : List Addr) from y) (by simp)) (by simp)
        | some u =>
          rcases hO b with y | ⟨ob, xs, y⟩
          · rw [c] at y
            cases y
          · have y2 := un.frzs b ob _ y
            obtain ⟨g1, _⟩ := hok b _ y
            obtain ⟨g2, _⟩ := hok' b _ y2
            rw [z] at g1
            cases g1
            exact g2
  cases hk : K.lookup a with
  | some o =>
    have z := KX a o hk
    rw [ha] at z
    cases z
    exact core (fun _ => none) (fun _ => .inl rfl) (.inr ⟨_, vs.toArray, _, hk, rfl, rfl, rfl, by rw [List.size_toArray, lenV]; exact hl, by simpa using rv⟩)
      (fun b u z => by
        have z' : (none : Option HO) = some u := z
        cases z') (fun b z => absurd rfl z) fun z => absurd rfl z
  | none =>
    refine core (fun b => if b = a then some (.frz { cls := .type "list", data := .seq vs.toArray } (.lst (ns.map V.int))) else none) (fun b => ?_) (.inl (.inr ⟨{ cls := .type "list", data := .seq vs.toArray }, if_pos rfl⟩)) (fun b u z => ?_) (fun b z => ?_) fun _ => hk
    · by_cases y : b = a
      · exact .inr ⟨_, _, if_pos y⟩
      · exact .inl (if_neg y)
    · by_cases y : b = a
      · have z' := (if_pos y).symm.trans z
        cases z'
        subst y
        exact ⟨ha, by rw [List.length_map]; exact hl, vs, _, rv, ha⟩
      · have z' := (if_neg y).symm.trans z
        cases z'
    · by_cases y : b = a
      · exact y
      · exact absurd (if_neg y) z
/-- what a law promises: from a list of at most 63 ints True comes out -/
def spLaw (K : Frag) : Sp := fun vs H Q _ => ∃ (a : Addr) (ns : List Int), vs = [.ref a] ∧ SqL K H a (ns.map V.int) ∧ ns.length ≤ 63 ∧ ∀ H', Q (.bl true) H'
theorem walkG {l : OpenLaw} {k : Nat} {q : Program} {loose : List Str} {XP : (Str → Option Value) → Heap → Prop} {YP : World → Heap → Prop} {d : DefRec} {K : Params → Frag}
    (hn : l.most = some 63) (hdf : d.params.defaults = []) (hr : Room k callerA)
    (hY : ∀ (w : World) (h : Heap), YP w h → (K w.params).In h)
    (F : ∀ (w : World) (mg : Str → Option Value) (fa : Addr) (h : Heap), (K w.params).In h → h.Ns mainGlobals mg → mg d.name = some (.ref fa) →
      ∃ fd : FuncData, (∀ (s : Shared) (u : Value), BindsTo s fd ⟨[u], []⟩ [("script", u)]) ∧
        ∀ base : Heap, (K w.params).In base → base.Ns mainGlobals mg → FnG l.prog w (K w.params) mg base k fa fd ["script"] (spLaw (K w.params))) :
    WalkO q loose XP YP l.row.toRowW d [] (fun f vs => PySem.call f vs) := by
  refine Att.attach_call hn hdf fun w s0 s1 mg mb fa o pm cd doc a vs ns G Y ho hd hcd hmg hobj hints hlen hg => ?_
  have KX := hY w _ Y
  obtain ⟨fd, hb, hF⟩ := F w mg fa _ KX G.T.g hmg
  exact law_callG KX G.T.g G.T.b G.T.builtins G.T.nolimit hg hobj hints (Nat.le_trans hlen (by decide)) hr hF hb (fun H hO hS => ⟨a, ns, rfl, hS, hlen, fun _ => rfl⟩)
end TS
namespace TS
open PySem L2
def top (i : Nat) : Stmt := PySem.Challenge.pw_tiedsteps_k33_errors_told.main.body.getD i (.Pass ⟨0, 0, 0, 0⟩)
abbrev sPool : Stmt := top 21
abbrev sTake : Stmt := top 22
/-- a pool's list: what is left of the cell, and the mixed number -/
def PoolAt (H : Hp) (p : Addr) : Prop := ∃ x y : Int, H p = some (.lst [.int x, .int y]) ∧ 0 ≤ x ∧ 0 ≤ y ∧ y < 2147483647
def spPool (K : PySem.W.Frag) : Sp := fun vs H Q _ => ∃ (a : Addr) (ns : List Int) (k : Int), vs = [.ref a, .int k] ∧ SqL K H a (ns.map V.int) ∧ 0 ≤ k ∧ k ≤ 1000 ∧
  ∀ (p : Addr) (x y : Int), H p = none → 0 ≤ x → 0 ≤ y → y < 2147483647 → Q (.ref p) (upd H p (.lst [.int x, .int y]))
def spTake : Sp := fun vs H Q _ => ∃ (p : Addr) (x y b : Int), vs = [.ref p, .int b] ∧ H p = some (.lst [.int x, .int y]) ∧ 0 ≤ x ∧ 0 ≤ y ∧ y < 2147483647 ∧ 0 < b ∧ b ≤ 1000000 ∧
  ∀ (r x' y' : Int), 0 ≤ r → r < b → 0 ≤ x' → 0 ≤ y' → y' < 2147483647 → Q (.int r) (upd H p (.lst [.int x', .int y']))
section
variable {P : Program} {w : World} {K : PySem.W.Frag} {mg : Str → Option Value} {base : Heap}
theorem oneB (b : Bool) : (-(2 ^ 64) < (if b = true then (1 : Int) else 0) ∧ (if b = true then (1 : Int) else 0) < 2 ^ 64) ∧ 0 ≤ (if b = true then (1 : Int) else 0) := by
  cases b <;> decide
theorem scPool : FnScope ["script", "k", "cell", "size", "mixed"] ["script", "k"] (defScope sPool) := ⟨rfl, rfl, rfl, by decide +kernel, rfl, by decide +kernel, by decide +kernel⟩
structure PoolT (mg : Str → Option Value) : Prop where
  len : mg "len" = none
  max : mg "max" = none
  int : mg "int" = none
theorem ok_pool {f : Addr} {fd : FuncData} (F : Fun K "_law_pool" "_law_pool" sPool f fd) (T : PoolT mg) : FnOk P w K mg base CX0 1 f fd ["script", "k"] (spPool K) := by
  refine F.ok scPool (fun vs H Q E h => ?_) (fun cdv A outer s H vs Q E hr h => ?_)
  · obtain ⟨a, ns, k, rfl, _⟩ := h
    rfl
  obtain ⟨a, ns, k, rfl, hS, k0, k1, q⟩ := h
  refine ⟨_, pss_cons (ps_set (i := 2) scPool.nd rfl (.inl rfl) pe_int)
    (pss_cons (ps_if (pt_cmpR op_lt (pv 1) (pe_callB call_len_seq (by rfl) T.len PySem.boot_len (pa_cons (pv 0) pa_nil)) (nomark _)) (pss_one (ps_set (i := 2) scPool.nd rfl (.inl rfl) (pe_ix ix_list (pv 0) (pv 1) (fun _ _ => rfl)))) pss_nil)
    (pss_cons (ps_set (i := 3) scPool.nd rfl (.inl rfl) (pe_callB (call_max2 rfl) (by rfl) T.max (by decide +kernel) (pa_cons (pe_callTy call_int1 (by rfl) T.int (by decide +kernel) (pa_cons (pv 2) pa_nil))
        (pa_cons (pe_callTy call_int1 (by rfl) T.int (by decide +kernel) (pa_cons (pe_op op_sub (pe_un un_neg pe_int) (pv 2)) pa_nil)) pa_nil))))
    (pss_cons (ps_set (i := 4) scPool.nd rfl (.inl rfl) (pe_op op_mod (pe_callTy call_int1 (by rfl) T.int (by decide +kernel) (pa_cons (pe_op op_mul
        (pe_op op_add (pe_op op_add (pe_op op_add (pe_op op_mod (pe_callTy call_int1 (by rfl) T.int (by decide +kernel) (pa_cons (pv 3) pa_nil)) pe_int) (pe_op op_mul (pe_op op_mul pe_int (pv 1)) (pv 1))) (pe_op op_mul pe_int (pv 1))) pe_int) pe_int) pa_nil)) pe_int))
    (pss_one (ps_ret (pe_lst (pa_cons (pe_op op_mul (pv 3) (pe_callTy call_int1 (by rfl) T.int (by decide +kernel) (pa_cons (pe_cmpR op_ge (pv 3) (pe_op op_pow pe_int pe_int) (nomark _)) pa_nil))) (pa_cons (pv 4) pa_nil)))))))), ?_⟩
  have hl : (ns.map V.int).length = ns.length := List.length_map _
  refine ⟨_, rfl, _, rfl, a, _, rfl, .inl hS, _, _, rfl, rfl, _, rfl, ?_⟩
  have hsz : ∀ c : Int, 0 ≤ (if -1 - c > c then -1 - c else c) := fun c => by
    split <;> omega
  have hat : k < (((ns.map V.int).length : Nat) : Int) → ∃ v, atI (ns.map V.int) k = some (.int v) := fun c => by
    rw [hl] at c
    have hk : k.toNat < ns.length := by omega
    have z : atI (ns.map V.int) ((k.toNat : Nat) : Int) = some (.int ns[k.toNat]) := atI_nat (by rw [List.getElem?_map, List.getElem?_eq_getElem hk] <;> rfl)
    rw [show ((k.toNat : Nat) : Int) = k by omega] at z
    exact ⟨_, z⟩
  refine ite2 (fun c => ?_) (fun c => ?_)
  · obtain ⟨v, hv⟩ := hat (of_decide_eq_true c)
    refine ⟨_, rfl, _, rfl, a, _, _, _, rfl, rfl, hS, hv, ?_⟩
    refine ⟨_, rfl, .inl ⟨_, rfl, _, rfl, _, rfl, _, _, rfl, rfl, .inl ⟨_, rfl, _, _, rfl, ?_⟩⟩⟩
    refine ⟨_, rfl, .inl ⟨_, rfl, _, _, rfl, rfl, (by show (0 : Int) < 2147483629; decide), _, rfl, _, _, rfl, rfl, .inl (by decide), _, rfl, _, _, rfl, rfl, .inr ⟨by omega, by omega⟩, _, _, rfl, rfl, _, rfl, _, _, rfl, rfl, .inl (by decide), _, _, rfl, rfl, _, _, rfl, rfl, _, _, rfl, rfl, .inr (by decide), .inl ⟨_, rfl, _, _, rfl, rfl, (by show (0 : Int) < 2147483647; decide), ?_⟩⟩⟩
    refine ⟨_, rfl, _, rfl, _, _, rfl, rfl, ⟨by decide, by decide, by decide⟩, _, _, rfl, rfl, .inr ⟨_, rfl, _, _, rfl, rfl, .inr (oneB _).1, _, rfl, (by show 2 ≤ sizeLine; decide), fun p hp => ?_⟩⟩
    exact q p _ _ hp (Int.mul_nonneg (hsz v) (oneB _).2) (Int.emod_nonneg _ (by decide)) (Int.emod_lt_of_pos _ (by decide))
  · refine ⟨_, rfl, .inl ⟨_, rfl, _, rfl, _, rfl, _, _, rfl, rfl, .inl ⟨_, rfl, _, _, rfl, ?_⟩⟩⟩
    refine ⟨_, rfl, .inl ⟨_, rfl, _, _, rfl, rfl, (by show (0 : Int) < 2147483629; decide), _, rfl, _, _, rfl, rfl, .inl (by decide), _, rfl, _, _, rfl, rfl, .inr ⟨by omega, by omega⟩, _, _, rfl, rfl, _, rfl, _, _, rfl, rfl, .inl (by decide), _, _, rfl, rfl, _, _, rfl, rfl, _, _, rfl, rfl, .inr (by decide), .inl ⟨_, rfl, _, _, rfl, rfl, (by show (0 : Int) < 2147483647; decide), ?_⟩⟩⟩
    refine ⟨_, rfl, _, rfl, _, _, rfl, rfl, ⟨by decide, by decide, by decide⟩, _, _, rfl, rfl, .inr ⟨_, rfl, _, _, rfl, rfl, .inr (oneB _).1, _, rfl, (by show 2 ≤ sizeLine; decide), fun p hp => ?_⟩⟩
    exact q p _ _ hp (Int.mul_nonneg (hsz 0) (oneB _).2) (Int.emod_nonneg _ (by decide)) (Int.emod_lt_of_pos _ (by decide))
theorem scTake : FnScope ["pool", "bound", "result"] ["pool", "bound"] (defScope sTake) := ⟨rfl, rfl, rfl, by decide +kernel, rfl, by decide +kernel, by decide +kernel⟩
theorem ok_take {f : Addr} {fd : FuncData} (F : Fun K "_law_take" "_law_take" sTake f fd) (T : PoolT mg) : FnOk P w K mg base CX0 1 f fd ["pool", "bound"] spTake := by
  refine F.ok scTake (fun vs H Q E h => ?_) (fun cdv A outer s H vs Q E hr h => ?_)
  · obtain ⟨p, x, y, b, rfl, _⟩ := h
    rfl
  obtain ⟨p, x, y, b, rfl, hp, x0, y0, y1, b0, b1, q⟩ := h
  have ix0 : ∀ {H' : Hp} {x' y' : Int}, H' p = some (.lst [.int x', .int y']) → SqL K H' p [.int x', .int y'] := fun h => SqL.of h
  refine ⟨_, pss_cons (ps_if (pt_cmpR op_gt (pe_ix ix_list (pv 0) pe_int (fun _ _ => rfl)) pe_int (nomark _))
      (pss_cons (ps_set (i := 2) scTake.nd rfl (.inl rfl) (pe_op op_mod (pe_callTy call_int1 (by rfl) T.int (by decide +kernel) (pa_cons (pe_ix ix_list (pv 0) pe_int (fun _ _ => rfl)) pa_nil)) (pv 1)))
      (pss_cons (ps_asg (pe_op op_fdiv (pe_ix ix_list (pv 0) pe_int (fun _ _ => rfl)) (pv 1)) (pg_sub (pv 0) pe_int set_list))
      (pss_one (ps_ret (pv 2))))) pss_nil)
    (pss_cons (ps_asg (pe_op op_mod (pe_callTy call_int1 (by rfl) T.int (by decide +kernel) (pa_cons (pe_op op_add (pe_op op_mul (pe_ix ix_list (pv 0) pe_int (fun _ _ => rfl)) pe_int) pe_int) pa_nil)) pe_int) (pg_sub (pv 0) pe_int set_list))
    (pss_one (ps_ret (pe_op op_mod (pe_callTy call_int1 (by rfl) T.int (by decide +kernel) (pa_cons (pe_op op_fdiv (pe_op op_mod (pe_callTy call_int1 (by rfl) T.int (by decide +kernel) (pa_cons (pe_op op_mul (pe_ix ix_list (pv 0) pe_int (fun _ _ => rfl)) (pe_ix ix_list (pv 0) pe_int (fun _ _ => rfl))) pa_nil)) pe_int) pe_int) pa_nil)) (pv 1))))), ?_⟩
  refine ⟨_, rfl, p, _, _, _, rfl, rfl, ix0 hp, rfl, _, _, rfl, rfl, _, rfl, ?_⟩
  refine ite2 (fun c => ?_) (fun c => ?_)
  · refine ⟨_, rfl, p, _, _, _, rfl, rfl, ix0 hp, rfl, .inl ⟨_, rfl, _, rfl, _, _, rfl, rfl, b0, ?_⟩⟩
    refine ⟨_, rfl, p, _, _, _, rfl, rfl, ix0 hp, rfl, _, rfl, _, _, rfl, rfl, ⟨b0, by omega⟩, _, rfl, p, _, _, 0, rfl, rfl, hp, rfl, _, rfl, ?_⟩
    exact q (x % b) (x / b) y (Int.emod_nonneg _ (by omega)) (Int.emod_lt_of_pos _ b0) (Int.ediv_nonneg x0 (by omega)) y0 y1
  · refine ⟨_, rfl, p, _, _, _, rfl, rfl, ix0 hp, rfl, _, _, rfl, rfl, .inr (by decide), _, _, rfl, rfl, .inl ⟨_, rfl, _, _, rfl, rfl, (by show (0 : Int) < 2147483647; decide), _, rfl, p, _, _, 1, rfl, rfl, hp, rfl, ?_⟩⟩
    have hp' : ∀ z : Int, (upd H p (.lst [.int x, .int z])) p = some (.lst [.int x, .int z]) := fun z => upd_same
    have z0 : 0 ≤ (y * 39373 + 7) % 2147483647 := Int.emod_nonneg _ (by decide)
    have z1 : (y * 39373 + 7) % 2147483647 < 2147483647 := Int.emod_lt_of_pos _ (by decide)
    refine ⟨_, rfl, p, _, _, _, rfl, rfl, ix0 (hp' _), rfl, _, rfl, p, _, _, _, rfl, rfl, ix0 (hp' _), rfl, _, _, rfl, rfl, .inl ⟨by omega, by omega⟩, .inl ⟨_, rfl, _, _, rfl, rfl, (by show (0 : Int) < 2147483629; decide), _, _, rfl, rfl, ⟨by decide, by decide⟩, .inl ⟨_, rfl, _, rfl, _, _, rfl, rfl, b0, ?_⟩⟩⟩
    exact q _ x _ (Int.emod_nonneg _ (by omega)) (Int.emod_lt_of_pos _ b0) x0 z0 z1
end
end TS
namespace TS
open PySem PySem.W L2 Evl
abbrev sKept : Stmt := top 23
abbrev sCls : Stmt := top 24
abbrev sStand : Stmt := top 25
abbrev sLaw : Stmt := top 26
/-- all that is asked of an own error x(arg) -/
structure Err (P : Program) (w : World) (K : Frag) (mg : Str → Option Value) (base : Heap) (x arg : Str) (C : Addr) : Prop where
  made : ∃ (B newId initId : String) (bmB : List Value) (fI : Addr) (fd : FuncData), ErrK K C B newId initId bmB ∧ findIn K (.ref C) "__init__" = some (some (.ref fI)) ∧ typeIn K (.ref fI) = some (.type "function") ∧
    FnOk P w K mg base CX0 1 fI fd ["self", arg] (spIni C arg) ∧ Binds K fd ["self", arg] [] ∧ ∀ (s2 : Shared) (o : Addr) (u : Value), BindsTo s2 fd ⟨[Value.ref o], [(arg, u)]⟩ ((["self", arg] : List Str).zip [Value.ref o, u])
  mgC : mg x = some (.ref C)
  isx : IsX K C
  no : findIn K (.ref C) arg = some none
section
variable {X : Cx} {x arg : Str} {C : Addr} {e : Expr} {te : TE} {p pos kpos : Pos}
theorem pe_e (E : Err X.prog X.w X.K X.mg X.base x arg C) (hr : Room 2 X.A) (hg : Gl X x) (he : PE X e te) (hdb : (x == ("__debug__" : Str)) = false := by decide +kernel)
    (hs : starEach [e] X.env = (false, eval e X.env) :: starEach [] X.env := by rfl) : PE X (.Call (.Name x p) [e] [] pos) (tErr C arg te) := by
  obtain ⟨B, n1, n2, bm, fI, fd, T, iC, tI, F1, hb, _⟩ := E.made
  exact pe_err T iC tI F1 hr hb hg E.mgC he hdb hs
theorem pe_k (E : Err X.prog X.w X.K X.mg X.base x arg C) (hr : Room 2 X.A) (hg : Gl X x) (he : PE X e te) (hdb : (x == ("__debug__" : Str)) = false := by decide +kernel) :
    PE X (.Call (.Name x p) [] [⟨some arg, e, kpos⟩] pos) (tErr C arg te) := by
  obtain ⟨B, n1, n2, bm, fI, fd, T, iC, tI, F1, _, hb⟩ := E.made
  exact pe_errK T iC tI F1 hr hb hg E.mgC he hdb
end
/-- an error of the class at C stands there -/
def EAt (H : Hp) (y : V) (C : Addr) : Prop := ∃ (a dx : Addr) (fs : List (Str × V)), y = .ref a ∧ H a = some (exo a C (some dx)) ∧ H dx = some (exd dx fs)
theorem EAt.ex {H H' : Hp} {y : V} {C : Addr} (e : Ex H H') (h : EAt H y C) : EAt H' y C := by
  obtain ⟨a, dx, fs, h1, h2, h3⟩ := h
  exact ⟨a, dx, fs, h1, e _ _ h2, e _ _ h3⟩
theorem ex_errH {H : Hp} {a dx C : Addr} {f : Str} {v : V} (na : H a = none) (nd : H dx = none) : Ex H (errH H a dx C f v) := fun b o z => by
  unfold errH
  rw [upd_ne (ne_of_none z na), upd_ne (ne_of_none z nd)]
  exact z
section
variable {σ : L2.St} {H : Hp} {te : TE} {v : V} {K : Frag} {C : Addr} {f : Str}
theorem ev_errF (h : Ev te σ H v) (I : IsX K C) (no : findIn K (.ref C) f = some none) : Ev (tErrF K f (tErr C f te)) σ H v := fun H1 e Q q => by
  refine h H1 e _ fun H2 e2 => ?_
  intro a dx na nd ne
  refine ⟨a, dx, C, [(f, v)], v, rfl, upd_same, ?_, ?_, I.x, no, q _ (e2.trans (ex_errH na nd))⟩
  · unfold errH
    rw [upd_ne ne, upd_same]
  · simp [List.lookup]
/-- found + [..], found a list that is tracked -/
theorem el_cat {ta tb : TE} {p : Addr} {xs ys : List V} (ha : Ev ta σ H (.ref p)) (hp : H p = some (.lst xs)) (hb : EvL tb σ H ys) (hz : xs.length + ys.length ≤ 100000) : EvL (tOp rCat ta tb) σ H (xs ++ ys) := fun H1 e Q q => by
  refine ha H1 e _ fun H2 e2 => ?_
  refine hb H2 (e.trans e2) _ fun r H3 hr e3 h3 => ?_
  refine ⟨p, r, xs, ys, rfl, rfl, e3 _ _ (e2 _ _ (e _ _ hp)), h3, sz_of hz, fun t ht => ?_⟩
  exact q t _ (fresh_back (e2.trans e3) ht) ((e2.trans e3).trans (Ex.new ht)) upd_same
end
/-- the names of the fifteen, then of the three others, with their arguments -/
def kinds : List (Str × Str) := [("NoTerm", "value"), ("NoDeed", "value"), ("NoProcess", "part"), ("NoProgram", "part"), ("NoPattern", "value"), ("NoStart", "value"), ("NoMove", "index"), ("NothingBack", "many"), ("NoNumber", "value"), ("NoPlace", "value"),
  ("NoPair", "value"), ("NoNote", "line"), ("NoOrder", "value"), ("NoFault", "value"), ("NoPlan", "value"), ("TooMany", "most"), ("NoName", "who"), ("NeverEnds", "many")]
/-- the classes' addresses -/
structure Errs (P : Program) (w : World) (K : Frag) (mg : Str → Option Value) (base : Heap) (c : Fin 18 → Addr) : Prop where
  e0 : Err P w K mg base "NoTerm" "value" (c 0)
  e1 : Err P w K mg base "NoDeed" "value" (c 1)
  e2 : Err P w K mg base "NoProcess" "part" (c 2)
  e3 : Err P w K mg base "NoProgram" "part" (c 3)
  e4 : Err P w K mg base "NoPattern" "value" (c 4)
  e5 : Err P w K mg base "NoStart" "value" (c 5)
  e6 : Err P w K mg base "NoMove" "index" (c 6)
  e7 : Err P w K mg base "NothingBack" "many" (c 7)
  e8 : Err P w K mg base "NoNumber" "value" (c 8)
  e9 : Err P w K mg base "NoPlace" "value" (c 9)
  e10 : Err P w K mg base "NoPair" "value" (c 10)
  e11 : Err P w K mg base "NoNote" "line" (c 11)
  e12 : Err P w K mg base "NoOrder" "value" (c 12)
  e13 : Err P w K mg base "NoFault" "value" (c 13)
  e14 : Err P w K mg base "NoPlan" "value" (c 14)
  e15 : Err P w K mg base "TooMany" "most" (c 15)
  e16 : Err P w K mg base "NoName" "who" (c 16)
  e17 : Err P w K mg base "NeverEnds" "many" (c 17)
/-- what may be kept: data that can be shown -/
structure Thing (K : Frag) (H : Hp) (v : V) (d : PyData) : Prop where
  dp : ∀ H', Ex H H' → Dp K H' v d
  sh : (PyData.list (List.replicate 18 d)).showable = true
  nd : (PyData.list (List.replicate 18 d)).hasDict = false
  dt : (PyData.list (List.replicate 18 d)).depth ≤ 20
  ln : (PyData.list (List.replicate 18 d)).shown.length ≤ sizeLine
theorem Thing.ex {K : Frag} {H H' : Hp} {v : V} {d : PyData} (e : Ex H H') (t : Thing K H v d) : Thing K H' v d := ⟨fun H2 e2 => t.dp H2 (e.trans e2), t.sh, t.nd, t.dt, t.ln⟩
/-- True comes out, and all that stood stands -/
def spTrue (K : Frag) : Sp := fun vs H Q _ => ∃ (v : V) (d : PyData), vs = [v] ∧ Thing K H v d ∧ ∀ H', Ex H H' → Q (.bl true) H'
theorem dpAll_rep {K : Frag} {H : Hp} {v : V} {d : PyData} (h : Dp K H v d) : ∀ n : Nat, DpAll K H (List.replicate n v) (List.replicate n d)
  | 0 => .nil
  | n + 1 => .cons h (dpAll_rep h n)
section
variable {P : Program} {w : World} {K : PySem.W.Frag} {mg : Str → Option Value} {base : Heap}
theorem scKept : FnScope ["thing", "found"] ["thing"] (defScope sKept) := ⟨rfl, rfl, rfl, by decide +kernel, rfl, by decide +kernel, by decide +kernel⟩
theorem ok_kept {f : Addr} {fd : FuncData} {c : Fin 18 → Addr} (F : Fun K "_law_kept_right" "_law_kept_right" sKept f fd) (R : Errs P w K mg base c) (mr : mg "repr" = none) : FnG P w K mg base 3 f fd ["thing"] (spTrue K) := by
  refine okG F scKept (fun vs H Q E h => ?_) (fun cdv A outer s H vs Q E hG hr h => ?_)
  · obtain ⟨v, d, rfl, _⟩ := h
    rfl
  obtain ⟨v, d, rfl, tg, q⟩ := h
  have hg : (cxOf CX0 P w K mg base ["thing", "found"] "_law_kept_right" (defScope sKept) f cdv A outer s H E).nox.A.guards = some [] := hG
  refine ⟨_, pss_cons (ps_set (i := 1) scKept.nd rfl (.inl rfl) (pe_lst (pa_cons (pe_errF (pe_e R.e0 hr rfl (pv 0))) (pa_cons (pe_errF (pe_k R.e1 hr rfl (pv 0))) (pa_cons (pe_errF (pe_k R.e2 hr rfl (pv 0))) (pa_cons (pe_errF (pe_e R.e3 hr rfl (pv 0))) pa_nil))))))
    (pss_cons (ps_set (i := 1) scKept.nd rfl (.inl rfl) (pe_op op_cat (pv 1) (pe_lst (pa_cons (pe_errF (pe_k R.e4 hr rfl (pv 0))) (pa_cons (pe_errF (pe_e R.e5 hr rfl (pv 0))) (pa_cons (pe_errF (pe_k R.e6 hr rfl (pv 0))) pa_nil))))))
    (pss_cons (ps_set (i := 1) scKept.nd rfl (.inl rfl) (pe_op op_cat (pv 1) (pe_lst (pa_cons (pe_errF (pe_k R.e7 hr rfl (pv 0))) (pa_cons (pe_errF (pe_e R.e8 hr rfl (pv 0))) (pa_cons (pe_errF (pe_k R.e9 hr rfl (pv 0))) pa_nil))))))
    (pss_cons (ps_set (i := 1) scKept.nd rfl (.inl rfl) (pe_op op_cat (pv 1) (pe_lst (pa_cons (pe_errF (pe_k R.e10 hr rfl (pv 0))) (pa_cons (pe_errF (pe_k R.e11 hr rfl (pv 0))) (pa_cons (pe_errF (pe_k R.e12 hr rfl (pv 0))) pa_nil))))))
    (pss_cons (ps_set (i := 1) scKept.nd rfl (.inl rfl) (pe_op op_cat (pv 1) (pe_lst (pa_cons (pe_errF (pe_e R.e13 hr rfl (pv 0))) (pa_cons (pe_errF (pe_k R.e14 hr rfl (pv 0))) (pa_cons (pe_errF (pe_k R.e15 hr rfl (pv 0))) pa_nil))))))
    (pss_cons (ps_set (i := 1) scKept.nd rfl (.inl rfl) (pe_op op_cat (pv 1) (pe_lst (pa_cons (pe_errF (pe_k R.e16 hr rfl (pv 0))) (pa_cons (pe_errF (pe_k R.e17 hr rfl (pv 0))) pa_nil)))))
    (pss_one (ps_ret (pe_cmpR op_eq (pe_callB (call_reprD hg hr) (by rfl) mr (by decide +kernel) (pa_cons (pv 1) pa_nil))
      (pe_callB (call_reprD hg hr) (by rfl) mr (by decide +kernel) (pa_cons (pe_op op_rep (pe_lst (pa_cons (pv 0) pa_nil)) pe_int) pa_nil)) (nomark _))))))))), ?_⟩
  refine q_asgL (el_lst (ea_cons (ev_errF (ev_var rfl) R.e0.isx R.e0.no) (ea_cons (ev_errF (ev_var rfl) R.e1.isx R.e1.no) (ea_cons (ev_errF (ev_var rfl) R.e2.isx R.e2.no) (ea_cons (ev_errF (ev_var rfl) R.e3.isx R.e3.no) ea_nil)))) (by show 4 ≤ 100000; decide)) fun p0 H0 n0 x0 h0 => ?_
  refine q_asgL (el_cat (ev_var rfl) h0 (el_lst (ea_cons (ev_errF (ev_var rfl) R.e4.isx R.e4.no) (ea_cons (ev_errF (ev_var rfl) R.e5.isx R.e5.no) (ea_cons (ev_errF (ev_var rfl) R.e6.isx R.e6.no) ea_nil))) (by show 3 ≤ 100000; decide)) (by simp)) fun p1 H1 n1 x1 h1 => ?_
  refine q_asgL (el_cat (ev_var rfl) h1 (el_lst (ea_cons (ev_errF (ev_var rfl) R.e7.isx R.e7.no) (ea_cons (ev_errF (ev_var rfl) R.e8.isx R.e8.no) (ea_cons (ev_errF (ev_var rfl) R.e9.isx R.e9.no) ea_nil))) (by show 3 ≤ 100000; decide)) (by simp)) fun p2 H2 n2 x2 h2 => ?_
  refine q_asgL (el_cat (ev_var rfl) h2 (el_lst (ea_cons (ev_errF (ev_var rfl) R.e10.isx R.e10.no) (ea_cons (ev_errF (ev_var rfl) R.e11.isx R.e11.no) (ea_cons (ev_errF (ev_var rfl) R.e12.isx R.e12.no) ea_nil))) (by show 3 ≤ 100000; decide)) (by simp)) fun p3 H3 n3 x3 h3 => ?_
  refine q_asgL (el_cat (ev_var rfl) h3 (el_lst (ea_cons (ev_errF (ev_var rfl) R.e13.isx R.e13.no) (ea_cons (ev_errF (ev_var rfl) R.e14.isx R.e14.no) (ea_cons (ev_errF (ev_var rfl) R.e15.isx R.e15.no) ea_nil))) (by show 3 ≤ 100000; decide)) (by simp)) fun p4 H4 n4 x4 h4 => ?_
  refine q_asgL (el_cat (ev_var rfl) h4 (el_lst (ea_cons (ev_errF (ev_var rfl) R.e16.isx R.e16.no) (ea_cons (ev_errF (ev_var rfl) R.e17.isx R.e17.no) ea_nil)) (by show 2 ≤ 100000; decide)) (by simp)) fun p5 H5 n5 x5 h5 => ?_
  have hall : H5 p5 = some (.lst (List.replicate 18 v)) := h5
  have xx : Ex H H5 := x0.trans (x1.trans (x2.trans (x3.trans (x4.trans x5))))
  have dd : ∀ H', Ex H5 H' → Dp K H' (.ref p5) (.list (List.replicate 18 d)) := fun H' e => .lst (sq_of (e _ _ hall)) (dpAll_rep (tg.dp H' (xx.trans e)) 18)
  refine ⟨_, rfl, p5, _, rfl, dd _ (Ex.refl _), tg.sh, tg.nd, tg.dt, tg.ln, ?_⟩
  refine ⟨_, rfl, (by show 1 ≤ sizeLine; decide), fun l hl => ?_⟩
  refine ⟨l, 18, [v], rfl, rfl, upd_same, by decide, by decide, (by show 18 ≤ sizeLine; decide), fun r hr' => ?_⟩
  have x6 : Ex H5 (upd H5 l (.lst [v])) := Ex.new hl
  have x7 : Ex (upd H5 l (.lst [v])) (upd (upd H5 l (.lst [v])) r (.lst (List.replicate 18 v))) := Ex.new hr'
  refine ⟨r, .list (List.replicate 18 d), rfl, .lst (sq_of upd_same) (dpAll_rep (tg.dp _ (xx.trans (x6.trans x7))) 18), tg.sh, tg.nd, tg.dt, tg.ln, rfl, ?_⟩
  have fin := q _ (xx.trans (x6.trans x7))
  exact (congrArg (fun b => Q (.bl b) _) (decide_eq_true rfl)).mpr fin
end
end TS
namespace TS
open PySem PySem.W L2 Evl
/-- which class is a kind of which -/
structure Kit (K : Frag) (c : Fin 18 → Addr) (ct : Addr) : Prop where
  own : ∀ i j : Fin 18, i.val < 15 → j.val < 15 → kitOne K (.ref (c i)) (.ref (c j)) = some (decide (j.val = i.val))
  tied : ∀ i : Fin 18, i.val < 15 → kitOne K (.ref (c i)) (.ref ct) = some true
  val : ∀ i : Fin 18, i.val < 15 → kitOne K (.ref (c i)) (.type "ValueError") = some true
  oth : ∀ i : Fin 18, i.val < 15 → kitAny K (.ref (c i)) [.type "OverflowError", .type "KeyError", .type "RuntimeError"] = some false
  no : ∀ i : Fin 18, 15 ≤ i.val → kitOne K (.ref (c i)) (.ref ct) = some false
  k15 : kitOne K (.ref (c 15)) (.type "OverflowError") = some true
  k16 : kitOne K (.ref (c 16)) (.type "KeyError") = some true
  k17 : kitOne K (.ref (c 17)) (.type "RuntimeError") = some true
section
variable {σ : L2.St} {H : Hp} {te tc : TE} {v y z : V} {K : Frag} {C : Addr} {cv : Value} {b : Bool}
theorem ev_isX (h : Ev te σ H y) (hc : Ev tc σ H z) (hy : EAt H y C) (I : IsX K C) (k : ClsV z cv) (ek : kitOne K (.ref C) cv = some b) : Ev (tCB (rIsX K) (tCons te (tCons tc tNil))) σ H (.bl b) := fun H1 e Q q => by
  refine h H1 e _ fun H2 e2 => hc H2 (e.trans e2) _ fun H3 e3 => ?_
  obtain ⟨a, dx, fs, rfl, h1, h2⟩ := hy.ex ((e.trans e2).trans e3)
  exact ⟨a, dx, C, fs, z, cv, b, rfl, h1, h2, I, k, ek, q H3 (e2.trans e3)⟩
end
/-- these are errors of these classes, one by one -/
inductive EAll (H : Hp) : List V → List Addr → Prop
  | nil : EAll H [] []
  | cons {y : V} {C : Addr} {ys : List V} {Cs : List Addr} : EAt H y C → EAll H ys Cs → EAll H (y :: ys) (C :: Cs)
theorem EAll.ex {H H' : Hp} (e : Ex H H') : ∀ {ys : List V} {Cs : List Addr}, EAll H ys Cs → EAll H' ys Cs
  | _, _, .nil => .nil
  | _, _, .cons h r => .cons (h.ex e) (EAll.ex e r)
theorem EAll.app {H : Hp} : ∀ {ys zs : List V} {Cs Ds : List Addr}, EAll H ys Cs → EAll H zs Ds → EAll H (ys ++ zs) (Cs ++ Ds)
  | _, _, _, _, .nil, h => h
  | _, _, _, _, .cons h r, k => .cons h (EAll.app r k)
theorem EAll.len {H : Hp} : ∀ {ys : List V} {Cs : List Addr}, EAll H ys Cs → ys.length = Cs.length
  | _, _, .nil => rfl
  | _, _, .cons h r => by rw [List.length_cons, List.length_cons, EAll.len r]
theorem EAll.get {H : Hp} : ∀ {ys : List V} {Cs : List Addr} {i : Nat} {y : V}, EAll H ys Cs → ys[i]? = some y → ∃ C, Cs[i]? = some C ∧ EAt H y C
  | _, _, _, _, .nil, e => by simp at e
  | _, _, 0, y, .cons (C := C) h r, e => by
    simp at e
    subst e
    exact ⟨C, rfl, h⟩
  | _, _, i + 1, y, .cons h r, e => by
    simp only [List.getElem?_cons_succ] at e ⊢
    exact EAll.get r e
/-- evaluates to errors of these classes -/
def EvE (ta : TA) (σ : L2.St) (H : Hp) (Cs : List Addr) : Prop := ∀ H1, Ex H H1 → ∀ Q : List V → Hp → Prop, (∀ ys H2, Ex H1 H2 → EAll H2 ys Cs → Q ys H2) → ta σ H1 Q
section
variable {σ : L2.St} {H : Hp} {te : TE} {v : V} {C : Addr} {f : Str}
theorem ee_nil : EvE tNil σ H [] := fun H1 _ Q q => q [] H1 (Ex.refl _) .nil
theorem ee_cons {tr : TA} {Cs : List Addr} (h : Ev te σ H v) (hr : EvE tr σ H Cs) : EvE (tCons (tErr C f te) tr) σ H (C :: Cs) := fun H1 e Q q => by
  refine h H1 e _ fun H2 e2 => ?_
  intro a dx na nd ne
  have x3 : Ex H2 (errH H2 a dx C f v) := ex_errH na nd
  refine hr _ ((e.trans e2).trans x3) _ fun ys H3 e3 hy => ?_
  refine q _ H3 ((e2.trans x3).trans e3) (.cons (EAt.ex e3 ⟨a, dx, [(f, v)], rfl, upd_same, ?_⟩) hy)
  unfold errH
  rw [upd_ne ne, upd_same]
/-- a display of new errors -/
def EvEL (te : TE) (σ : L2.St) (H : Hp) (Cs : List Addr) : Prop := ∀ H1, Ex H H1 → ∀ Q : VK, (∀ p ys H2, H1 p = none → Ex H1 H2 → H2 p = some (.lst ys) → EAll H2 ys Cs → Q (.ref p) H2) → te σ H1 Q
theorem eel_lst {ta : TA} {Cs : List Addr} (h : EvE ta σ H Cs) (hl : Cs.length ≤ 100000) : EvEL (tLst ta) σ H Cs := fun H1 e Q q => by
  refine h H1 e _ fun ys H2 e2 hy => ⟨sz_of (by rw [hy.len]; exact hl), fun p hp => ?_⟩
  exact q p ys _ (fresh_back e2 hp) (e2.trans (Ex.new hp)) upd_same (hy.ex (Ex.new hp))
theorem eel_cat {ta tb : TE} {p : Addr} {ys : List V} {Cs Ds : List Addr} (ha : Ev ta σ H (.ref p)) (hp : H p = some (.lst ys)) (hy : EAll H ys Cs) (hb : EvEL tb σ H Ds) (hz : Cs.length + Ds.length ≤ 100000) : EvEL (tOp rCat ta tb) σ H (Cs ++ Ds) := fun H1 e Q q => by
  refine ha H1 e _ fun H2 e2 => ?_
  refine hb H2 (e.trans e2) _ fun r zs H3 hr e3 h3 hz3 => ?_
  have x := (e.trans e2).trans e3
  refine ⟨p, r, ys, zs, rfl, rfl, x _ _ hp, h3, sz_of (by rw [hy.len, hz3.len]; exact hz), fun t ht => ?_⟩
  have x2 : Ex H3 (upd H3 t (.lst (ys ++ zs))) := Ex.new ht
  exact q t _ _ (fresh_back (e2.trans e3) ht) ((e2.trans e3).trans x2) upd_same (((hy.ex x).app hz3).ex x2)
end
section
variable {P : Program} {w : World} {K : PySem.W.Frag} {mg : Str → Option Value} {base : Heap}
/-- of which of the fifteen classes -/
def spCls (K : Frag) (c : Fin 18 → Addr) : Sp := fun vs H Q _ => ∃ (y : V) (i : Fin 18), vs = [y] ∧ i.val < 15 ∧ EAt H y (c i) ∧
  ∀ p H', H p = none → Ex H H' → H' p = some (.lst ((List.range 15).map fun j => V.bl (decide (j = i.val)))) → Q (.ref p) H'
theorem scCls : FnScope ["e", "found"] ["e"] (defScope sCls) := ⟨rfl, rfl, rfl, by decide +kernel, rfl, by decide +kernel, by decide +kernel⟩
theorem ok_cls {f : Addr} {fd : FuncData} {c : Fin 18 → Addr} {ct : Addr} (F : Fun K "_law_classes" "_law_classes" sCls f fd) (R : Errs P w K mg base c) (Z : Kit K c ct) (ix : ∀ i, IsX K (c i)) (mi : mg "isinstance" = none) : FnOk P w K mg base CX0 1 f fd ["e"] (spCls K c) := by
  refine F.ok scCls (fun vs H Q E h => ?_) (fun cdv A outer s H vs Q E hr h => ?_)
  · obtain ⟨y, i, rfl, _⟩ := h
    rfl
  obtain ⟨y, i, rfl, hi, hy, q⟩ := h
  refine ⟨_, pss_cons (ps_set (i := 1) scCls.nd rfl (.inl rfl) (pe_lst
      (pa_cons (pe_callB call_isX (by rfl) mi (by decide +kernel) (pa_cons (pv 0) (pa_cons (pe_glob rfl R.e0.mgC (v := .ref (c 0)) rfl) pa_nil)))
      (pa_cons (pe_callB call_isX (by rfl) mi (by decide +kernel) (pa_cons (pv 0) (pa_cons (pe_glob rfl R.e1.mgC (v := .ref (c 1)) rfl) pa_nil)))
      (pa_cons (pe_callB call_isX (by rfl) mi (by decide +kernel) (pa_cons (pv 0) (pa_cons (pe_glob rfl R.e2.mgC (v := .ref (c 2)) rfl) pa_nil)))
      (pa_cons (pe_callB call_isX (by rfl) mi (by decide +kernel) (pa_cons (pv 0) (pa_cons (pe_glob rfl R.e3.mgC (v := .ref (c 3)) rfl) pa_nil))) pa_nil))))))
    (pss_cons (ps_set (i := 1) scCls.nd rfl (.inl rfl) (pe_op op_cat (pv 1) (pe_lst
      (pa_cons (pe_callB call_isX (by rfl) mi (by decide +kernel) (pa_cons (pv 0) (pa_cons (pe_glob rfl R.e4.mgC (v := .ref (c 4)) rfl) pa_nil)))
      (pa_cons (pe_callB call_isX (by rfl) mi (by decide +kernel) (pa_cons (pv 0) (pa_cons (pe_glob rfl R.e5.mgC (v := .ref (c 5)) rfl) pa_nil)))
      (pa_cons (pe_callB call_isX (by rfl) mi (by decide +kernel) (pa_cons (pv 0) (pa_cons (pe_glob rfl R.e6.mgC (v := .ref (c 6)) rfl) pa_nil))) pa_nil))))))
    (pss_cons (ps_set (i := 1) scCls.nd rfl (.inl rfl) (pe_op op_cat (pv 1) (pe_lst
      (pa_cons (pe_callB call_isX (by rfl) mi (by decide +kernel) (pa_cons (pv 0) (pa_cons (pe_glob rfl R.e7.mgC (v := .ref (c 7)) rfl) pa_nil)))
      (pa_cons (pe_callB call_isX (by rfl) mi (by decide +kernel) (pa_cons (pv 0) (pa_cons (pe_glob rfl R.e8.mgC (v := .ref (c 8)) rfl) pa_nil)))
      (pa_cons (pe_callB call_isX (by rfl) mi (by decide +kernel) (pa_cons (pv 0) (pa_cons (pe_glob rfl R.e9.mgC (v := .ref (c 9)) rfl) pa_nil))) pa_nil))))))
    (pss_cons (ps_set (i := 1) scCls.nd rfl (.inl rfl) (pe_op op_cat (pv 1) (pe_lst
      (pa_cons (pe_callB call_isX (by rfl) mi (by decide +kernel) (pa_cons (pv 0) (pa_cons (pe_glob rfl R.e10.mgC (v := .ref (c 10)) rfl) pa_nil)))
      (pa_cons (pe_callB call_isX (by rfl) mi (by decide +kernel) (pa_cons (pv 0) (pa_cons (pe_glob rfl R.e11.mgC (v := .ref (c 11)) rfl) pa_nil)))
      (pa_cons (pe_callB call_isX (by rfl) mi (by decide +kernel) (pa_cons (pv 0) (pa_cons (pe_glob rfl R.e12.mgC (v := .ref (c 12)) rfl) pa_nil))) pa_nil))))))
    (pss_one (ps_ret (pe_op op_cat (pv 1) (pe_lst
      (pa_cons (pe_callB call_isX (by rfl) mi (by decide +kernel) (pa_cons (pv 0) (pa_cons (pe_glob rfl R.e13.mgC (v := .ref (c 13)) rfl) pa_nil)))
      (pa_cons (pe_callB call_isX (by rfl) mi (by decide +kernel) (pa_cons (pv 0) (pa_cons (pe_glob rfl R.e14.mgC (v := .ref (c 14)) rfl) pa_nil))) pa_nil))))))))), ?_⟩
  have one : ∀ {σ : L2.St} {H' : Hp} (j : Fin 18), j.val < 15 → Ex H H' → σ[0]? = some (some y) → Ev (tCB (rIsX K) (tCons (tVar 0) (tCons (tC (.ref (c j))) tNil))) σ H' (.bl (decide (j.val = i.val))) :=
    fun j hj e h0 => ev_isX (ev_var h0) ev_c (hy.ex e) (ix i) (.own _) (Z.own i j hi hj)
  refine q_asgL (el_lst (ea_cons (one 0 (by decide) (Ex.refl _) rfl) (ea_cons (one 1 (by decide) (Ex.refl _) rfl) (ea_cons (one 2 (by decide) (Ex.refl _) rfl) (ea_cons (one 3 (by decide) (Ex.refl _) rfl) ea_nil)))) (by simp)) fun p0 H0 n0 x0 h0 => ?_
  refine q_asgL (el_cat (ev_var rfl) h0 (el_lst (ea_cons (one 4 (by decide) x0 rfl) (ea_cons (one 5 (by decide) x0 rfl) (ea_cons (one 6 (by decide) x0 rfl) ea_nil))) (by simp)) (by simp)) fun p1 H1 n1 x1 h1 => ?_
  have y1 := x0.trans x1
  refine q_asgL (el_cat (ev_var rfl) h1 (el_lst (ea_cons (one 7 (by decide) y1 rfl) (ea_cons (one 8 (by decide) y1 rfl) (ea_cons (one 9 (by decide) y1 rfl) ea_nil))) (by simp)) (by simp)) fun p2 H2 n2 x2 h2 => ?_
  have y2 := y1.trans x2
  refine q_asgL (el_cat (ev_var rfl) h2 (el_lst (ea_cons (one 10 (by decide) y2 rfl) (ea_cons (one 11 (by decide) y2 rfl) (ea_cons (one 12 (by decide) y2 rfl) ea_nil))) (by simp)) (by simp)) fun p3 H3 n3 x3 h3 => ?_
  have y3 := y2.trans x3
  refine s_retL (el_cat (ev_var rfl) h3 (el_lst (ea_cons (one 13 (by decide) y3 rfl) (ea_cons (one 14 (by decide) y3 rfl) ea_nil)) (by simp)) (by simp)) fun p4 H4 n4 x4 h4 => ?_
  exact q p4 H4 (fresh_back y3 n4) (y3.trans x4) h4
end
end TS
namespace TS
open PySem PySem.W L2 Evl
/-- the names that stand_right asks for -/
structure StandT (mg : Str → Option Value) (ct : Addr) : Prop where
  isi : mg "isinstance" = none
  tied : mg "TiedError" = some (.ref ct)
  val : mg "ValueError" = none
  ovf : mg "OverflowError" = none
  key : mg "KeyError" = none
  run : mg "RuntimeError" = none
  enu : mg "enumerate" = none
  rng : mg "range" = none
section
variable {P : Program} {w : World} {K : PySem.W.Frag} {mg : Str → Option Value} {base : Heap}
abbrev nmStand : List Str := ["thing", "some", "e", "spot", "others", "place"]
theorem bIsi : bootBuiltins "isinstance" = some (.builtin "isinstance") := by decide +kernel
/-- isinstance(e, C) in the comprehensions -/
abbrev tIs (K : Frag) (z : V) : TE := tCB (rIsX K) (tCons (tVar 2) (tCons (tC z) tNil))
abbrev tIs3 (K : Frag) : TE := tCB (rIsXT K) (tCons (tVar 2) (tCons (tTup (tCons (tC (.ty "OverflowError")) (tCons (tC (.ty "KeyError")) (tCons (tC (.ty "RuntimeError")) tNil)))) tNil))
theorem scStand : FnScope nmStand ["thing"] (defScope sStand) := ⟨rfl, rfl, rfl, by decide +kernel, rfl, by decide +kernel, by decide +kernel⟩
theorem q_asgE {σ : L2.St} {H : Hp} {te : TE} {tz : TS} {D : Ends} {Cs : List Addr} {i : Nat} (h : EvEL te σ H Cs) (k : ∀ p ys H1, H p = none → Ex H H1 → H1 p = some (.lst ys) → EAll H1 ys Cs → tz D (σ.set i (some (.ref p))) H1) :
    tSeq (tAsg te (gName i)) tz D σ H := h H (Ex.refl H) _ fun p ys H1 hp e h1 hy => k p ys H1 hp e h1 hy
/-- the fifteen classes, as they are laid -/
def cs15 (c : Fin 18 → Addr) : List Addr := [c 0, c 1, c 2, c 3, c 4] ++ [c 5, c 6, c 7, c 8, c 9] ++ [c 10, c 11, c 12] ++ [c 13, c 14]
theorem cs15_at (c : Fin 18 → Addr) {i : Nat} {C : Addr} (h : (cs15 c)[i]? = some C) : ∃ j : Fin 18, j.val = i ∧ j.val < 15 ∧ C = c j := by
  have hi : i < 15 := by
    have := (List.getElem?_eq_some_iff.mp h).1
    exact this
  have all : ∀ k : Fin 15, (cs15 c)[k.val]? = some (c ⟨k.val, by omega⟩) := by
    rintro ⟨k, hk⟩
    iterate 15
      rcases k with _ | k
      · rfl
    omega
  have z := all ⟨i, hi⟩
  rw [h] at z
  exact ⟨⟨i, by omega⟩, rfl, hi, Option.some.inj z⟩
theorem cs3_at (c : Fin 18 → Addr) {i : Nat} {C : Addr} (h : [c 15, c 16, c 17][i]? = some C) : ∃ j : Fin 18, j.val = 15 + i ∧ C = c j := by
  rcases i with _ | _ | _ | i
  · exact ⟨15, rfl, (Option.some.inj h).symm⟩
  · exact ⟨16, rfl, (Option.some.inj h).symm⟩
  · exact ⟨17, rfl, (Option.some.inj h).symm⟩
  · simp at h
theorem given_none {n : Nat} {v : Nat → V} : Evl.given n (fun _ => false) v = [] := by
  unfold Evl.given
  simp
theorem given_all {n : Nat} {v : Nat → V} : Evl.given n (fun _ => true) v = (List.range n).map v := by
  unfold Evl.given
  rw [List.filter_eq_self.mpr fun _ _ => rfl]
theorem rv_neD {K : Frag} {H : Hp} {x y : V} {d e : PyData} (hd : ∀ H1, Ex H H1 → Dp K H1 x d) (he : ∀ H1, Ex H H1 → Dp K H1 y e) (sd : SeqAt.shaped d = true) (se : SeqAt.shaped e = true) : RV (rNeD K) x y H (.bl (!PyData.eqv d e)) :=
  fun H1 ex Q q => ⟨d, e, hd H1 ex, he H1 ex, sd, se, q H1 (Ex.refl _)⟩
theorem rv_neNil {K : Frag} {H : Hp} {p r : Addr} (hp : H p = some (.lst [])) (hr : H r = some (.lst [])) : RV (rNeD K) (.ref p) (.ref r) H (.bl false) :=
  rv_neD (d := .list []) (e := .list []) (fun H1 e => .lst (sq_of (e _ _ hp)) .nil) (fun H1 e => .lst (sq_of (e _ _ hr)) .nil) rfl rfl
theorem dpAll_bool {K : Frag} {H : Hp} (b : Nat → Bool) : ∀ l : List Nat, DpAll K H (l.map fun j => V.bl (b j)) (l.map fun j => PyData.bool (b j))
  | [] => .nil
  | j :: l => .cons (.bl _) (dpAll_bool b l)
theorem sh15 : ∀ i : Fin 15, SeqAt.shaped (.list ((List.range 15).map fun j => PyData.bool (decide (j = i.val)))) = true := by decide +kernel
theorem eq15 : ∀ i : Fin 15, PyData.eqv (.list ((List.range 15).map fun j => PyData.bool (decide (j = i.val)))) (.list ((List.range 15).map fun j => PyData.bool (decide (j = i.val)))) = true := by decide +kernel
theorem ok_stand {f fc : Addr} {fd fdc : FuncData} {c : Fin 18 → Addr} {ct : Addr} (F : Fun K "_law_stand_right" "_law_stand_right" sStand f fd) (R : Errs P w K mg base c) (Z : Kit K c ct) (ix : ∀ i, IsX K (c i)) (T : StandT mg ct)
    (Gc : FnOk P w K mg base CX0 1 fc fdc ["e"] (spCls K c)) (bc : Binds K fdc ["e"] []) (kc : keepIn K (.ref fc) = true) (mc : mg "_law_classes" = some (.ref fc)) : FnOk P w K mg base CX0 3 f fd ["thing"] (spTrue K) := by
  refine F.ok scStand (fun vs H Q E h => ?_) (fun cdv A outer s H vs Q E hr h => ?_)
  · obtain ⟨v, d, rfl, _⟩ := h
    rfl
  obtain ⟨v, d, rfl, tg, q⟩ := h
  have hr1 : Room 1 _ := hr.mono (by decide)
  refine ⟨_, pss_cons (ps_set (i := 1) scStand.nd rfl (.inl rfl) (pe_lst (pa_cons (pe_e R.e0 hr rfl (pv 0)) (pa_cons (pe_e R.e1 hr rfl (pv 0)) (pa_cons (pe_e R.e2 hr rfl (pv 0)) (pa_cons (pe_e R.e3 hr rfl (pv 0)) (pa_cons (pe_e R.e4 hr rfl (pv 0)) pa_nil)))))))
    (pss_cons (ps_set (i := 1) scStand.nd rfl (.inl rfl) (pe_op op_cat (pv 1) (pe_lst (pa_cons (pe_e R.e5 hr rfl (pv 0)) (pa_cons (pe_e R.e6 hr rfl (pv 0)) (pa_cons (pe_e R.e7 hr rfl (pv 0)) (pa_cons (pe_e R.e8 hr rfl (pv 0)) (pa_cons (pe_e R.e9 hr rfl (pv 0)) pa_nil))))))))
    (pss_cons (ps_set (i := 1) scStand.nd rfl (.inl rfl) (pe_op op_cat (pv 1) (pe_lst (pa_cons (pe_e R.e10 hr rfl (pv 0)) (pa_cons (pe_e R.e11 hr rfl (pv 0)) (pa_cons (pe_e R.e12 hr rfl (pv 0)) pa_nil))))))
    (pss_cons (ps_set (i := 1) scStand.nd rfl (.inl rfl) (pe_op op_cat (pv 1) (pe_lst (pa_cons (pe_e R.e13 hr rfl (pv 0)) (pa_cons (pe_e R.e14 hr rfl (pv 0)) pa_nil)))))
    (pss_cons (ps_if (pt_cmpR (op_neD hr.units)
        (pe_lc (own := [("e", 2)]) (g := gName 2) (tt := tOr (tNot (tB (tIs K (.ref ct)))) (tNot (tB (tIs K (.ty "ValueError"))))) (te := tVar 2) (by rfl) scStand.nd (pi_list (pv 1)) (blkOk_by (own := [("e", 2)]) (N := nmStand) (sc := defScope sStand) (by decide +kernel)) (fun _ _ _ _ _ => pg_name (i := 2) scStand.nd rfl (Or.inl rfl))
          (fun _ _ _ _ _ => pts_one (PW.pt (pw_or (pt_not (pt_val (pe_callB call_isX (by rfl) T.isi bIsi (pa_cons (pv 2) (pa_cons (pe_glob rfl T.tied (v := .ref ct) rfl) pa_nil)))))
            (pw_or1 (pt_not (pt_val (pe_callB call_isX (by rfl) T.isi bIsi (pa_cons (pv 2) (pa_cons (pe_bltn (by rfl) T.val (v := .ty "ValueError") (by decide +kernel) rfl) pa_nil)))))))))
          (fun _ _ _ _ _ => pv 2))
        (pe_lst pa_nil) (nomark _)) (pss_one (ps_ret pe_bl)) pss_nil)
    (pss_cons (ps_if (pt_cmpR (op_neD hr.units)
        (pe_lc (own := [("e", 2)]) (g := gName 2) (tt := tB (tIs3 K)) (te := tVar 2) (by rfl) scStand.nd (pi_list (pv 1)) (blkOk_by (own := [("e", 2)]) (N := nmStand) (sc := defScope sStand) (by decide +kernel)) (fun _ _ _ _ _ => pg_name (i := 2) scStand.nd rfl (Or.inl rfl))
          (fun _ _ _ _ _ => pts_one (pt_val (pe_callB call_isXT (by rfl) T.isi bIsi (pa_cons (pv 2) (pa_cons (pe_tup (pa_cons (pe_bltn (by rfl) T.ovf (v := .ty "OverflowError") (by decide +kernel) rfl) (pa_cons (pe_bltn (by rfl) T.key (v := .ty "KeyError") (by decide +kernel) rfl)
            (pa_cons (pe_bltn (by rfl) T.run (v := .ty "RuntimeError") (by decide +kernel) rfl) pa_nil)))) pa_nil)))))
          (fun _ _ _ _ _ => pv 2))
        (pe_lst pa_nil) (nomark _)) (pss_one (ps_ret pe_bl)) pss_nil)
    (pss_cons (ps_for PassesOwn.never rfl (pi_enum (by rfl) T.enu (pa_cons (pv 1) pa_nil)) (pg_tup rfl (pgs_cons (pg_name (i := 3) scStand.nd rfl (.inr rfl)) (pgs_cons (pg_name (i := 2) scStand.nd rfl (.inl rfl)) pgs_nil)))
        (pss_one (ps_if (pt_cmpR (op_neD hr.units) (pe_call Gc hr1 rfl mc kc bc .nil pass0 (pa_cons (pv 2) pa_nil))
          (pe_lc (own := [("place", 5)]) (g := gName 5) (tt := tYes) (te := tOp rEq (tVar 5) (tVar 3)) (by rfl) scStand.nd (pi_range1 (by rfl) T.rng (pa_cons pe_int pa_nil)) (blkOk_by (own := [("place", 5)]) (N := nmStand) (sc := defScope sStand) (by decide +kernel)) (fun _ _ _ _ _ => pg_name (i := 5) scStand.nd rfl (Or.inl rfl))
            (fun _ _ _ _ _ => pts_nil) (fun _ _ _ _ _ => pe_cmpR op_eq (pv 5) (pv 3) (nomark _)))
          (nomark _)) (pss_one (ps_ret pe_bl)) pss_nil)))
    (pss_cons (ps_set (i := 4) scStand.nd rfl (.inl rfl) (pe_lst (pa_cons (pe_e R.e15 hr rfl (pv 0)) (pa_cons (pe_e R.e16 hr rfl (pv 0)) (pa_cons (pe_e R.e17 hr rfl (pv 0)) pa_nil)))))
    (pss_cons (ps_if (pt_cmpR (op_neD hr.units)
        (pe_lc (own := [("e", 2)]) (g := gName 2) (tt := tB (tIs K (.ref ct))) (te := tVar 2) (by rfl) scStand.nd (pi_list (pv 4)) (blkOk_by (own := [("e", 2)]) (N := nmStand) (sc := defScope sStand) (by decide +kernel)) (fun _ _ _ _ _ => pg_name (i := 2) scStand.nd rfl (Or.inl rfl))
          (fun _ _ _ _ _ => pts_one (pt_val (pe_callB call_isX (by rfl) T.isi bIsi (pa_cons (pv 2) (pa_cons (pe_glob rfl T.tied (v := .ref ct) rfl) pa_nil)))))
          (fun _ _ _ _ _ => pv 2))
        (pe_lst pa_nil) (nomark _)) (pss_one (ps_ret pe_bl)) pss_nil)
    (pss_cons (ps_if (PW.pt (pw_or (pt_not (pt_val (pe_callB call_isX (by rfl) T.isi bIsi (pa_cons (pe_ix ix_list (pv 4) pe_int (fun _ _ => rfl)) (pa_cons (pe_bltn (by rfl) T.ovf (v := .ty "OverflowError") (by decide +kernel) rfl) pa_nil)))))
        (pw_or1 (pt_not (pt_val (pe_callB call_isX (by rfl) T.isi bIsi (pa_cons (pe_ix ix_list (pv 4) pe_int (fun _ _ => rfl)) (pa_cons (pe_bltn (by rfl) T.key (v := .ty "KeyError") (by decide +kernel) rfl) pa_nil))))))))
        (pss_one (ps_ret pe_bl)) pss_nil)
    (pss_one (ps_ret (pe_callB call_isX (by rfl) T.isi bIsi (pa_cons (pe_ix ix_list (pv 4) pe_int (fun _ _ => rfl)) (pa_cons (pe_bltn (by rfl) T.run (v := .ty "RuntimeError") (by decide +kernel) rfl) pa_nil)))))))))))))), ?_⟩
  refine q_asgE (eel_lst (ee_cons (ev_var rfl) (ee_cons (ev_var rfl) (ee_cons (ev_var rfl) (ee_cons (ev_var rfl) (ee_cons (ev_var rfl) ee_nil))))) (by simp)) fun p0 ys0 H0 n0 x0 h0 a0 => ?_
  refine q_asgE (eel_cat (ev_var rfl) h0 a0 (eel_lst (ee_cons (ev_var rfl) (ee_cons (ev_var rfl) (ee_cons (ev_var rfl) (ee_cons (ev_var rfl) (ee_cons (ev_var rfl) ee_nil))))) (by simp)) (by simp)) fun p1 ys1 H1 n1 x1 h1 a1 => ?_
  refine q_asgE (eel_cat (ev_var rfl) h1 a1 (eel_lst (ee_cons (ev_var rfl) (ee_cons (ev_var rfl) (ee_cons (ev_var rfl) ee_nil))) (by simp)) (by simp)) fun p2 ys2 H2 n2 x2 h2 a2 => ?_
  refine q_asgE (eel_cat (ev_var rfl) h2 a2 (eel_lst (ee_cons (ev_var rfl) (ee_cons (ev_var rfl) ee_nil)) (by simp)) (by simp)) fun p3 ys3 H3 n3 x3 h3 a3 => ?_
  have a3' : EAll H3 ys3 (cs15 c) := a3
  have hlen : ys3.length = 15 := a3'.len
  have xx : Ex H H3 := x0.trans (x1.trans (x2.trans x3))
  have at15 : ∀ {i : Nat} {y : V}, ys3[i]? = some y → ∃ j : Fin 18, j.val = i ∧ j.val < 15 ∧ EAt H3 y (c j) := fun {i y} hy => by
    obtain ⟨C, hC, hE⟩ := a3'.get hy
    obtain ⟨j, h1, h2, rfl⟩ := cs15_at c hC
    exact ⟨j, h1, h2, hE⟩
  refine q_when (b := false) (et_test (ev_opLL (el_lcL (f := fun _ => false) (v := fun _ => .non) (ev_var rfl) (sq_of (K := K) h3) (by omega) (fun x => rfl) (fun i y H' e hy => ?_) (fun i y H' e hy z => by cases z)) (el_lst ea_nil (by simp))
    (fun r t H' hr' ht e => rv_neNil (by rw [given_none] at hr'; exact hr') ht))) (fun z => by cases z) fun _ H4 x4 => ?_
  · obtain ⟨j, _, hj, hE⟩ := at15 hy
    exact et_is (et_or (et_not (et_B (ev_isX (ev_var rfl) ev_c (hE.ex e) (ix j) (.own ct) (Z.tied j hj)))) (fun _ => et_not (et_B (ev_isX (ev_var rfl) ev_c (hE.ex e) (ix j) (.ty _) (Z.val j hj))))) rfl
  refine q_when (b := false) (et_test (ev_opLL (el_lcL (f := fun _ => false) (v := fun _ => .non) (ev_var rfl) (sq_of (K := K) (x4 _ _ h3)) (by omega) (fun x => rfl) (fun i y H' e hy => ?_) (fun i y H' e hy z => by cases z)) (el_lst ea_nil (by simp))
    (fun r t H' hr' ht e => rv_neNil (by rw [given_none] at hr'; exact hr') ht))) (fun z => by cases z) fun _ H5 x5 => ?_
  · obtain ⟨j, _, hj, hE⟩ := at15 hy
    refine et_B fun H6 e6 Q6 q6 => ⟨_, rfl, (by show 3 ≤ sizeLine; decide), fun t ht => ?_⟩
    obtain ⟨a, dx, fs, rfl, g1, g2⟩ := hE.ex ((x4.trans e).trans (e6.trans (Ex.new (o := .tup [.ty "OverflowError", .ty "KeyError", .ty "RuntimeError"]) ht)))
    exact ⟨a, dx, _, t, fs, _, _, false, rfl, g1, g2, ix j, upd_same, .cons (.ty _) (.cons (.ty _) (.cons (.ty _) .nil)), Z.oth j hj, q6 _ (Ex.new ht)⟩
  have y5 := x4.trans x5
  refine ⟨_, rfl, p3, ys3, rfl, sq_of (y5 _ _ h3), for_it (walk_enum (K := K) (a := p3) (xs := ys3)) (fun i σ' H' => ∃ e2 e3 : Option V, σ' = [some v, some (.ref p3), e2, e3, none, none] ∧ Ex H5 H') ⟨_, _, rfl, Ex.refl _⟩
    (fun i σ' H' hi ⟨e2, e3, _, e⟩ => sq_of ((y5.trans e) _ _ h3)) ?_ ?_⟩
  · rintro i x σ' H' H'' hi ⟨e2, e3, rfl, e⟩ ⟨t, a, b, rfl, ht, rfl, ea, hb⟩
    obtain rfl := Option.some.inj ea
    refine ⟨t, _, rfl, st_of upd_same, rfl, _, _, rfl, _, _, rfl, rfl, ?_⟩
    obtain ⟨j, rfl, hj, hE⟩ := at15 hb
    have e' : Ex H3 (upd H' t (.tup [.int (j.val : Nat), b])) := (y5.trans e).trans (Ex.new ht)
    have d1 : ∀ (r : Addr) (l : List V) H1, H1 r = some (.lst l) → l = (List.range 15).map (fun k => V.bl (decide (k = j.val))) → ∀ H2, Ex H1 H2 → Dp K H2 (.ref r) (.list ((List.range 15).map fun k => PyData.bool (decide (k = j.val)))) := fun r l H1 h1 hl H2 e2 => by
      subst hl
      exact .lst (sq_of (e2 _ _ h1)) (dpAll_bool _ _)
    refine s_when (b := false) (et_test (ev_is (ev_opLL (el_call (vs := [b]) (ea_cons (ev_var rfl) ea_nil) (fun H1 e1 Q1 q1 E1 => ⟨b, j, rfl, hj, hE.ex (e'.trans e1), q1⟩))
      (el_lcR1 (n := 15) (f := fun _ => true) (v := fun k => .bl (decide (V.int (k : Int) = V.int (j.val : Int)))) (ea_cons ev_c ea_nil) (by decide) (fun x => rfl) (fun k H1 _ _ H2 _ Q2 q2 => q2 H2 (Ex.refl _)) (fun k H1 _ _ _ => ev_op (ev_var rfl) (ev_var rfl) (rv_eq rfl)))
      (fun r s' H1 hr' hs' e1 => rv_neD (d1 r _ H1 hr' rfl) (d1 s' _ H1 hs' (by
        show Evl.given 15 _ _ = _
        rw [given_all]
        exact List.map_congr_left fun k _ => congrArg V.bl (decide_eq_decide.mpr ⟨fun z => by injection z with z; omega, fun z => by rw [z]⟩))) (sh15 ⟨j.val, hj⟩) (sh15 ⟨j.val, hj⟩))) (by rw [eq15 ⟨j.val, hj⟩] <;> rfl))) (fun z => by cases z) fun _ H1 e1 => ?_
    exact ⟨_, _, rfl, (e.trans (Ex.new ht)).trans e1⟩
  · rintro σ' H6 ⟨e2, e3, rfl, x6⟩
    refine q_asgE (eel_lst (ee_cons (ev_var rfl) (ee_cons (ev_var rfl) (ee_cons (ev_var rfl) ee_nil))) (by simp)) fun p4 ys4 H7 n7 x7 h7 a7 => ?_
    refine q_when (b := false) (et_test (ev_opLL (el_lcL (f := fun _ => false) (v := fun _ => .non) (ev_var rfl) (sq_of (K := K) h7) (by rw [a7.len]; simp) (fun x => rfl) (fun i y H' e hy => ?_) (fun i y H' e hy z => by cases z)) (el_lst ea_nil (by simp))
      (fun r t H' hr' ht e => rv_neNil (by rw [given_none] at hr'; exact hr') ht))) (fun z => by cases z) fun _ H8 x8 => ?_
    · obtain ⟨C, hC, hE⟩ := a7.get hy
      obtain ⟨j, hj, rfl⟩ := cs3_at c hC
      exact et_B (ev_isX (ev_var rfl) ev_c (hE.ex e) (ix j) (.own ct) (Z.no j (by omega)))
    cases a7 with
    | cons g15 r15 =>
      cases r15 with
      | cons g16 r16 =>
        cases r16 with
        | cons g17 r17 =>
          cases r17
          refine q_when (b := false) (et_is (et_or (et_not (et_B (ev_isX (ev_op (ev_var rfl) ev_c (rv_ixL (sq_of (x8 _ _ h7)) rfl)) ev_c (g15.ex x8) (ix 15) (.ty _) Z.k15)))
            (fun _ => et_not (et_B (ev_isX (ev_op (ev_var rfl) ev_c (rv_ixL (sq_of (x8 _ _ h7)) rfl)) ev_c (g16.ex x8) (ix 16) (.ty _) Z.k16)))) rfl) (fun z => by cases z) fun _ H9 x9 => ?_
          have y9 := x8.trans x9
          refine s_ret (ev_isX (ev_op (ev_var rfl) ev_c (rv_ixL (sq_of (y9 _ _ h7)) rfl)) ev_c (g17.ex y9) (ix 17) (.ty _) Z.k17) fun H10 x10 => ?_
          exact q H10 (xx.trans ((y5.trans x6).trans ((x7.trans y9).trans x10)))
end
end TS
namespace TS
open PySem PySem.W L2 Evl
/-- may be shown eighteen times in a list -/
def okB (d : PyData) : Bool := (PyData.list (List.replicate 18 d)).showable && !(PyData.list (List.replicate 18 d)).hasDict && decide ((PyData.list (List.replicate 18 d)).depth ≤ 20) && decide ((PyData.list (List.replicate 18 d)).shown.length ≤ sizeLine)
theorem thing_of {K : Frag} {H : Hp} {v : V} {d : PyData} (h : okB d = true) (hd : ∀ H', Ex H H' → Dp K H' v d) : Thing K H v d := by
  unfold okB at h
  simp only [Bool.and_eq_true, decide_eq_true_eq, Bool.not_eq_true'] at h
  obtain ⟨⟨⟨h1, h2⟩, h3⟩, h4⟩ := h
  exact ⟨hd, h1, h2, h3, h4⟩
theorem ok_ints : ∀ n : _root_.Fin 99, okB (.int (n.val : Nat)) = true := by decide +kernel
theorem ok_int {r : Int} (h0 : 0 ≤ r) (h1 : r < 99) : okB (.int r) = true := by
  have z := ok_ints ⟨r.toNat, by omega⟩
  have e : ((r.toNat : Nat) : Int) = r := by omega
  simp only [e] at z
  exact z
theorem ok_non : okB .none = true := by decide +kernel
theorem ok_a : okB (.str "a") = true := by decide +kernel
theorem ok_tup : okB (.tuple [.str "b", .int 1]) = true := by decide +kernel
theorem ok_nil : okB (.list []) = true := by decide +kernel
end TS
namespace TS
open PySem PySem.W L2 Evl
structure LawT (mg : Str → Option Value) : Prop where
  rng : mg "range" = none
  max : mg "max" = none
  min : mg "min" = none
  len : mg "len" = none
section
variable {P : Program} {w : World} {K : PySem.W.Frag} {mg : Str → Option Value} {base : Heap}
abbrev nmLaw : List Str := ["script", "k", "pool", "thing"]
theorem scLaw : FnScope nmLaw ["script"] (defScope sLaw) := ⟨rfl, rfl, rfl, by decide +kernel, rfl, by decide +kernel, by decide +kernel⟩
theorem ok_law {f fp ft fk fs : Addr} {fd fdp fdt fdk fds : FuncData} (F : Fun K "law" "law" sLaw f fd) (T : LawT mg)
    (Gp : FnOk P w K mg base CX0 1 fp fdp ["script", "k"] (spPool K)) (bp : Binds K fdp ["script", "k"] []) (kp : keepIn K (.ref fp) = true) (mp : mg "_law_pool" = some (.ref fp))
    (Gt : FnOk P w K mg base CX0 1 ft fdt ["pool", "bound"] spTake) (bt : Binds K fdt ["pool", "bound"] []) (kt : keepIn K (.ref ft) = true) (mt : mg "_law_take" = some (.ref ft))
    (Gk : FnG P w K mg base 3 fk fdk ["thing"] (spTrue K)) (bk : Binds K fdk ["thing"] []) (kk : keepIn K (.ref fk) = true) (mk : mg "_law_kept_right" = some (.ref fk))
    (Gs : FnOk P w K mg base CX0 3 fs fds ["thing"] (spTrue K)) (bs : Binds K fds ["thing"] []) (ks : keepIn K (.ref fs) = true) (ms : mg "_law_stand_right" = some (.ref fs)) : FnG P w K mg base 4 f fd ["script"] (spLaw K) := by
  refine okG F scLaw (fun vs H Q E h => ?_) (fun cdv A outer s H vs Q E hG hr h => ?_)
  · obtain ⟨a, ns, rfl, _⟩ := h
    rfl
  obtain ⟨a, ns, rfl, hS, hlen, q⟩ := h
  have hg : (cxOf CX0 P w K mg base nmLaw "law" (defScope sLaw) f cdv A outer s H E).nox.A.guards = some [] := hG
  have hr1 : Room 1 _ := hr.mono (by decide)
  refine ⟨_, pss_cons (ps_for PassesOwn.never rfl (pi_range1 (by rfl) T.rng (pa_cons (pe_callB (call_max2 rfl) (by rfl) T.max (by decide +kernel) (pa_cons pe_int (pa_cons (pe_callB (call_min2 rfl) (by rfl) T.min (by decide +kernel)
        (pa_cons pe_int (pa_cons (pe_callB call_len_seq (by rfl) T.len PySem.boot_len (pa_cons (pv 0) pa_nil)) pa_nil))) pa_nil))) pa_nil)) (pg_name (i := 1) scLaw.nd rfl (.inl rfl))
      (pss_cons (ps_set (i := 2) scLaw.nd rfl (.inl rfl) (pe_call Gp hr1 rfl mp kp bp .nil pass0 (pa_cons (pv 0) (pa_cons (pv 1) pa_nil))))
      (pss_one (ps_for PassesOwn.never rfl (pi_list (pe_lst (pa_cons (pe_call Gt hr1 rfl mt kt bt .nil pass0 (pa_cons (pv 2) (pa_cons pe_int pa_nil))) (pa_cons pe_non (pa_cons pe_str (pa_cons (pe_tup (pa_cons pe_str (pa_cons pe_int pa_nil))) (pa_cons (pe_lst pa_nil) pa_nil)))))))
        (pg_name (i := 3) scLaw.nd rfl (.inl rfl))
        (pss_one (ps_if (PW.pt (pw_or (pt_not (pt_val (pe_callG (E := fun _ _ _ => False) Gk hg hr rfl mk kk bk (pa_cons (pv 3) pa_nil)))) (pw_or1 (pt_not (pt_val (pe_call Gs hr rfl ms ks bs .nil pass0 (pa_cons (pv 3) pa_nil))))))) (pss_one (ps_ret pe_bl)) pss_nil))))))
    (pss_one (ps_ret pe_bl)), ?_⟩
  have hl : (ns.map V.int).length = ns.length := List.length_map _
  refine ⟨_, rfl, a, _, rfl, .inl hS, _, _, rfl, _, _, rfl, ?_⟩
  have hm : ∀ z : Int, 0 ≤ z → z ≤ 63 → 1 ≤ (if (if z < 4 then z else 4) > 1 then (if z < 4 then z else 4) else 1) ∧ (if (if z < 4 then z else 4) > 1 then (if z < 4 then z else 4) else 1) ≤ 4 := fun z _ _ => by
    split <;> split <;> omega
  have hz := hm ((ns.map V.int).length : Nat) (by omega) (by omega)
  refine ⟨_, rfl, by omega, by omega, for_range (lo := 0) (fun i σ' H' => ∃ e1 e2 e3 : Option V, σ' = [some (.ref a), e1, e2, e3] ∧ Ex H H') ⟨_, _, _, rfl, Ex.refl _⟩ ?_ ?_⟩
  · rintro i σ' H1 hi ⟨e1, e2, e3, rfl, x1⟩
    refine ⟨_, rfl, _, rfl, a, ns, _, rfl, ex_l x1 hS, by omega, by omega, fun p x y hp x0 y0 y1 => ?_⟩
    refine ⟨_, rfl, p, x, y, 99, rfl, upd_same, x0, y0, y1, by decide, by decide, fun r x' y' r0 r1 _ _ _ => ?_⟩
    have u1 : Ex H1 (upd (upd H1 p (.lst [.int x, .int y])) p (.lst [.int x', .int y'])) := Ex.mut (Ex.new hp) hp
    refine ⟨(by show 2 ≤ sizeLine; decide), fun t ht => ?_⟩
    refine ⟨(by show 0 ≤ sizeLine; decide), fun l hl' => ?_⟩
    refine ⟨(by show 5 ≤ sizeLine; decide), fun L hL => ?_⟩
    obtain ⟨H5, hH5⟩ : ∃ H5 : Hp, H5 = upd (upd (upd (upd (upd H1 p (.lst [.int x, .int y])) p (.lst [.int x', .int y'])) t (.tup [.str "b", .int 1])) l (.lst [])) L (.lst [.int r, .non, .str "a", .ref t, .ref l]) := ⟨_, rfl⟩
    have hL5 : H5 L = some (.lst [.int r, .non, .str "a", .ref t, .ref l]) := by
      rw [hH5]
      exact upd_same
    have u2 := Ex.new (o := .tup [.str "b", .int 1]) ht
    have u3 := Ex.new (o := .lst []) hl'
    have u4 := Ex.new (o := .lst [.int r, .non, .str "a", .ref t, .ref l]) hL
    have hl5 : H5 l = some (.lst []) := by
      rw [hH5]
      exact u4 _ _ upd_same
    have ht5 : H5 t = some (.tup [.str "b", .int 1]) := by
      rw [hH5]
      exact u4 _ _ (u3 _ _ upd_same)
    have u5 : Ex H1 H5 := by
      rw [hH5]
      exact u1.trans (u2.trans (u3.trans u4))
    have tgs : ∀ (j : Nat) (z : V), ([.int r, .non, .str "a", .ref t, .ref l] : List V)[j]? = some z → ∃ d, Thing K H5 z d := by
      intro j z hj
      rcases j with _ | _ | _ | _ | _ | j
      · obtain rfl := Option.some.inj hj
        exact ⟨_, thing_of (ok_int r0 r1) fun _ _ => .int _⟩
      · obtain rfl := Option.some.inj hj
        exact ⟨_, thing_of ok_non fun _ _ => .non⟩
      · obtain rfl := Option.some.inj hj
        exact ⟨_, thing_of ok_a fun _ _ => .str _⟩
      · obtain rfl := Option.some.inj hj
        exact ⟨_, thing_of ok_tup fun _ e => .tup (st_of (e _ _ ht5)) (.cons (.str _) (.cons (.int _) .nil))⟩
      · obtain rfl := Option.some.inj hj
        exact ⟨_, thing_of ok_nil fun _ e => .lst (sq_of (e _ _ hl5)) .nil⟩
      · simp at hj
    refine ⟨L, rfl, ⟨_, sq_of upd_same⟩, ?_⟩
    rw [← hH5]
    refine for_list (K := K) (a := L) (xs := [.int r, .non, .str "a", .ref t, .ref l]) (fun j σ2 H2 => ∃ e4 : Option V, σ2 = [some (.ref a), some (.int (0 + (i : Int))), some (.ref p), e4] ∧ Ex H5 H2) ⟨_, rfl, Ex.refl _⟩
      (fun j σ2 H2 _ ⟨_, _, e⟩ => sq_of (e _ _ hL5)) ?_ ?_
    · rintro j z σ2 H2 hj ⟨e4, rfl, e⟩
      obtain ⟨d, tg⟩ := tgs j z hj
      refine s_when (b := false) (et_is (et_or (et_not (et_B (ev_call (vs := [z]) (ea_cons (ev_var rfl) ea_nil) fun H3 e3 Q3 q3 E3 => ⟨z, d, rfl, tg.ex (e.trans e3), q3⟩)))
        (fun _ => et_not (et_B (ev_call (vs := [z]) (ea_cons (ev_var rfl) ea_nil) fun H3 e3 Q3 q3 E3 => ⟨z, d, rfl, tg.ex (e.trans e3), q3⟩)))) rfl) (fun z => by cases z) fun _ H3 e3 => ?_
      exact ⟨_, rfl, e.trans e3⟩
    · rintro σ2 H2 ⟨e4, rfl, e⟩
      exact ⟨_, _, _, rfl, x1.trans (u5.trans e)⟩
  · rintro σ' H1 ⟨e1, e2, e3, rfl, x1⟩
    exact q H1
end
end TS
namespace TS
open PySem PySem.W L2 PySem.F
abbrev keyMro : List Value := [.type "KeyError", .type "LookupError", .type "Exception", .type "BaseException", .type "object"]
theorem keyPass (self : Value) : refuseLoop self "__setattr__" keyMro = pure () := by kernel_rfl
theorem keyKxs : KxsFacts "KeyError" "KeyError.__init__" := by
  refine ⟨?_, ?_⟩
  · show builtinType _ = _
    rw [builtinType_eq_fast]
    kernel_rfl
  · first | kernel_rfl | rfl
theorem keyIni : IniF "KeyError" "KeyError.__init__" where
  plain := by decide +kernel
  entry := by
    refine entryFor_alias (id' := "BaseException.__init__") ?_ ?_ ?_ ?_
    · rw [fastTable_eq_tree]
      kernel_rfl
    · first | rfl | decide +kernel
    · decide +kernel
    · rw [fastTable_eq_tree]
      kernel_rfl
  kind := by kernel_rfl
  row := by kernel_rfl
  noStar := by decide +kernel
  KF := keyKxs
end TS
namespace TS
open PySem PySem.Spec PyProof.Rows PySem.W PySem.Calls L2
/-- an own error, over every base -/
def ErrAll (P : Program) (w : World) (K : Frag) (mg : Str → Option Value) (x arg : Str) (C : Addr) : Prop := (∀ base, Err P w K mg base x arg C) ∧ IsX K C
/-- the built-in base of an own error -/
structure BaseF (B newId initId : String) (bmB : List Value) : Prop where
  NF : ∃ (Bn iN : String) (bmN : List Value), ExcBaseFacts Bn newId iN bmN ∧ bmB.contains (.type Bn) = true
  noA : bmB.contains (.type "AttributeError") = false
  noN : bmB.contains (.type "NameError") = false
  IF : IniF B initId
  pass : ∀ self : Value, refuseLoop self "__setattr__" bmB = pure ()
  obj : bmB.contains (.type "object") = true
abbrev valMro : List Value := [.type "ValueError", .type "Exception", .type "BaseException", .type "object"]
abbrev ovfMro : List Value := [.type "OverflowError", .type "ArithmeticError", .type "Exception", .type "BaseException", .type "object"]
abbrev runMro : List Value := [.type "RuntimeError", .type "Exception", .type "BaseException", .type "object"]
theorem valBase : BaseF "ValueError" "ValueError.__new__" "ValueError.__init__" valMro := ⟨⟨_, _, _, F.excBase_ValueError, by decide +kernel⟩, by decide +kernel, by decide +kernel, .of F.excBase_ValueError.toExcCallFacts kxs_ValueError, F.store_ValueError.passes, by decide +kernel⟩
theorem ovfBase : BaseF "OverflowError" "OverflowError.__new__" "OverflowError.__init__" ovfMro := ⟨⟨_, _, _, F.excBase_OverflowError, by decide +kernel⟩, by decide +kernel, by decide +kernel, .of F.excBase_OverflowError.toExcCallFacts kxs_OverflowError, fun self => by kernel_rfl, by decide +kernel⟩
theorem runBase : BaseF "RuntimeError" "RuntimeError.__new__" "RuntimeError.__init__" runMro := ⟨⟨_, _, _, F.excBase_RuntimeError, by decide +kernel⟩, by decide +kernel, by decide +kernel, .of F.excBase_RuntimeError.toExcCallFacts kxs_RuntimeError, fun self => by kernel_rfl, by decide +kernel⟩
theorem keyBase : BaseF "KeyError" "LookupError.__new__" "KeyError.__init__" keyMro := ⟨⟨_, _, _, F.excBase_LookupError, by decide +kernel⟩, by decide +kernel, by decide +kernel, keyIni, keyPass, by decide +kernel⟩
/-- the names in such an __init__ -/
abbrev iniNames (arg : Str) : List (Str × NameKind) := [("self", .local), (arg, .local), ("__class__", .free), ("super", .globalImplicit)]
abbrev iniArgs (arg : Str) (q1 q2 : Pos) : Arguments := { posonlyargs := [], args := [{ arg := "self", annotation := none, pos := q1 }, { arg := arg, annotation := none, pos := q2 }], vararg := none, kwonlyargs := [], kw_defaults := [], kwarg := none, defaults := [] }
abbrev iniBody (arg msg : Str) (kk : Nat) (p0 p1 p2 p3 p4 p5 p6 p7 p8 p9 : Pos) : List Stmt := [.Expr (supX msg kk p0 p1 p2 p3 p4) p5, .Assign [.Attribute (.Name "self" p6) arg p7] (.Name arg p8) p9]
/-- an attribute's name that is none of the others -/
def argOk (arg : Str) : Bool := decide (arg ≠ "self") && decide (arg ≠ "super") && decide (arg ≠ "__class__") && !(arg == ("__debug__" : Str))
theorem ini_names {arg : Str} (h : argOk arg = true) : (iniNames arg).lookup ("super" : Str) = some .globalImplicit ∧ (iniNames arg).lookup ("__class__" : Str) = some .free ∧ (iniNames arg).lookup ("self" : Str) = some .local ∧ (iniNames arg).lookup arg = some .local ∧ (∀ x ∈ iniNames arg, x.2 ≠ .cell) ∧ arg ≠ "self" ∧ (arg == ("__debug__" : Str)) = false := by
  unfold argOk at h
  simp only [Bool.and_eq_true, decide_eq_true_eq, Bool.not_eq_true'] at h
  obtain ⟨⟨⟨h1, h2⟩, h3⟩, h4⟩ := h
  have n1 : (("super" : Str) == arg) = false := by simpa using fun z : ("super" : Str) = arg => h2 z.symm
  have n2 : (("__class__" : Str) == arg) = false := by simpa using fun z : ("__class__" : Str) = arg => h3 z.symm
  have n3 : (arg == ("self" : Str)) = false := by simpa using h1
  have m1 : (("super" : Str) == "self") = false := by decide +kernel
  have m2 : (("super" : Str) == "__class__") = false := by decide +kernel
  have m3 : (("__class__" : Str) == "self") = false := by decide +kernel
  refine ⟨?_, ?_, ?_, ?_, ?_, h1, h4⟩
  · simp [List.lookup, n1, m1, m2]
  · simp [List.lookup, n2, m3]
  · simp [List.lookup]
  · simp [List.lookup, n3]
  · intro x hx
    simp only [List.mem_cons, List.not_mem_nil, or_false] at hx
    rcases hx with rfl | rfl | rfl | rfl <;> simp
theorem err_mk {Goal : Prop} {P : Program} {w : World} {K : Frag} {h : Heap} {mg : Str → Option Value} {x arg qual msg file : Str} {C fI cc cda : Addr} {B newId initId : String} {bmB : List Value}
    {nm qn : Str} {N : Addr} {bs bm sub : List Value} {sn : List Str} {ab : Bool} {col : Option Bool} {dd : Option Addr} {k0 k1 k2 k3 k5 : Option Value}
    {q1 q2 p0 p1 p2 p3 p4 p5 p6 p7 p8 p9 : Pos} {kk : Nat} {doc pm ct oc : Value} {an od : Option Addr} {osl : Array (Option Value)} {ccl cl : Value} {cdd cld : Option Addr} {cvs : Array Value} {ccs csl : Array (Option Value)} {tf : Tok}
    (X : K.In h) (G : h.Ns mainGlobals mg) (FB : BaseF B newId initId bmB) (ao : argOk arg = true) (hfile : ((P.main.file : Str) == file) = true) (htop : (P.main.scope.names.lookup ("super" : Str)).isSome = false)
    (hn : specialIn K (.builtin "object.__class__") "__get__" = some (some (.builtin "getset_descriptor.__get__"))) (htk : takesIn K (.builtin "object.__class__") = some true) (ho : nsIn K cStatics "thirdparty.any" = some none) (su : nsIn K mainGlobals "super" = some none)
    (aC : nsIn K mainGlobals x = some (some (.ref C)))
    (xL : K.lookup C = some (excClassObj nm qn C N bs bm true sn sub ab col dd k0 k1 k2 k3 k5 newId)) (xT : excTail bmB bm = true)
    (sa : findIn K (.ref C) "__setattr__" = some (some (.builtin "object.__setattr__"))) (exC : subIn K (.ref C) (.type "BaseException") = some true) (tyC : typeIn K (.ref C) = some (.type "type")) (kC : keepIn K (.ref C) = true)
    (ga : findIn K (.ref C) "__getattribute__" = some (some (.builtin "BaseException.__getattribute__"))) (gg : findIn K (.ref C) "__getattr__" = some none) (hd : hasDictIn K C = true) (hc : isClsIn K C = true)
    (ha : findIn K (.ref C) "__class__" = some (some (.builtin "object.__class__"))) (mo : mroIn K C (.type "object") = some true) (no : findIn K (.ref C) arg = some none)
    (iC : findIn K (.ref C) "__init__" = some (some (.ref fI))) (tI : typeIn K (.ref fI) = some (.type "function"))
    (lk : K.lookup fI = some ⟨oc, od, .func (ksFn "__init__" qual (iniArgs arg q1 q2) (iniBody arg msg kk p0 p1 p2 p3 p4 p5 p6 p7 p8 p9) (fscope (iniNames arg)) .none .none doc pm an (.ref cda) ct cc), osl⟩)
    (lc : K.lookup cda = some ⟨ccl, cdd, .fields cvs, ccs⟩) (fl : cvs[2]? = some (.str file tf)) (le : K.lookup cc = some ⟨cl, cld, .cell (some (.ref C)), csl⟩) (ms : mroIn K C (.ref C) = some true) (cd : codeIn K (.ref cda) qual = true)
    (si : ks_superIn K C C "__init__" = some (some (.builtin initId))) (sB : subIn K (.ref C) (.type B) = some true) (SO : SupOk msg kk p0 p1 p2 p3 p4)
    (kb : ∀ a b : Value, bindArgs (ksFn "__init__" qual (iniArgs arg q1 q2) (iniBody arg msg kk p0 p1 p2 p3 p4 p5 p6 p7 p8 p9) (fscope (iniNames arg)) .none .none doc pm an (.ref cda) ct cc) ⟨[a], [(arg, b)]⟩ = pure (((["self", arg] : List Str)).zip [a, b]))
    (pb : ∀ a b : Value, bindArgs (ksFn "__init__" qual (iniArgs arg q1 q2) (iniBody arg msg kk p0 p1 p2 p3 p4 p5 p6 p7 p8 p9) (fscope (iniNames arg)) .none .none doc pm an (.ref cda) ct cc) ⟨[a, b], []⟩ = pure (((["self", arg] : List Str)).zip [a, b]))
    (k : ErrAll P w K mg x arg C → Goal) : Goal := by
  have T : ErrK K C B newId initId bmB := ⟨FB.NF, FB.noA, FB.noN, FB.IF, FB.pass, FB.obj, ⟨nm, qn, N, bs, bm, sn, sub, ab, col, dd, k0, k1, k2, k3, k5, xL, xT⟩, sa, exC, tyC, kC⟩
  have Z : IniTxt K C cc cda qual file B initId := ⟨⟨ccl, cdd, cvs, ccs, tf, lc, fl⟩, ⟨cl, cld, csl, le⟩, ms, cd, ho, si, sB⟩
  have I : IsX K C := ⟨⟨ga, gg, exC, hd⟩, hc, ha, hn, htk, mo⟩
  obtain ⟨n1, n2, n3, n4, n5, n6, n7⟩ := ini_names ao
  refine k ⟨fun base => ⟨⟨B, newId, initId, bmB, fI, _, T, iC, tI, fn_ini (k := 0) T Z SO lk hfile htop (mg_none_of X G su) no rfl rfl n1 n2 n3 n4 n5 n6 n7, ?_, ?_⟩, mg_of X G aC, I, no⟩, I⟩
  · exact Binds.all fun us hl => match us, hl with | [_, _], _ => pb _ _
  · exact fun s2 o u => .of_eq (kb _ _)
theorem file_ok : ((PySem.Challenge.pw_tiedsteps_k33_errors_told.main.file : Str) == ("/claim/cut.py" : Str)) = true := by decide +kernel
theorem top_ok : (PySem.Challenge.pw_tiedsteps_k33_errors_told.main.scope.names.lookup ("super" : Str)).isSome = false := by decide +kernel
theorem ao_value : argOk "value" = true := by decide +kernel
theorem ao_part : argOk "part" = true := by decide +kernel
theorem ao_index : argOk "index" = true := by decide +kernel
theorem ao_many : argOk "many" = true := by decide +kernel
theorem ao_line : argOk "line" = true := by decide +kernel
theorem ao_most : argOk "most" = true := by decide +kernel
theorem ao_who : argOk "who" = true := by decide +kernel
/-- the addresses, by place -/
def cOf (l : List Addr) (i : _root_.Fin 18) : Addr := l.getD i.val 0
def kitTab (K : Frag) (c : _root_.Fin 18 → Addr) (ct : Addr) : Bool :=
  ((List.finRange 18).all fun i => (List.finRange 18).all fun j => !(decide (i.val < 15) && decide (j.val < 15)) || kitOne K (.ref (c i)) (.ref (c j)) == some (decide (j.val = i.val))) &&
  ((List.finRange 18).all fun i => !(decide (i.val < 15)) || (kitOne K (.ref (c i)) (.ref ct) == some true && kitOne K (.ref (c i)) (.type "ValueError") == some true && kitAny K (.ref (c i)) [.type "OverflowError", .type "KeyError", .type "RuntimeError"] == some false)) &&
  ((List.finRange 18).all fun i => !(decide (15 ≤ i.val)) || kitOne K (.ref (c i)) (.ref ct) == some false) &&
  (kitOne K (.ref (c 15)) (.type "OverflowError") == some true) && (kitOne K (.ref (c 16)) (.type "KeyError") == some true) && (kitOne K (.ref (c 17)) (.type "RuntimeError") == some true)
theorem kit_of_tab {K : Frag} {c : _root_.Fin 18 → Addr} {ct : Addr} (h : kitTab K c ct = true) : Kit K c ct := by
  unfold kitTab at h
  simp only [Bool.and_eq_true, List.all_eq_true, List.mem_finRange, forall_const, Bool.or_eq_true, Bool.not_eq_true', beq_iff_eq, Bool.and_eq_false_iff, decide_eq_false_iff_not] at h
  obtain ⟨⟨⟨⟨⟨h1, h2⟩, h3⟩, h4⟩, h5⟩, h6⟩ := h
  refine ⟨fun i j hi hj => ?_, fun i hi => ?_, fun i hi => ?_, fun i hi => ?_, fun i hi => ?_, h4, h5, h6⟩
  · rcases h1 i j with (z | z) | z
    · exact absurd hi z
    · exact absurd hj z
    · exact z
  · rcases h2 i with z | z
    · exact absurd hi z
    · exact z.1.1
  · rcases h2 i with z | z
    · exact absurd hi z
    · exact z.1.2
  · rcases h2 i with z | z
    · exact absurd hi z
    · exact z.2
  · rcases h3 i with z | z
    · exact absurd hi z
    · exact z
theorem all_mk {l : OpenLaw} {w : World} {K : Frag} {h : Heap} {mg : Str → Option Value} {fa ct C0 C1 C2 C3 C4 C5 C6 C7 C8 C9 C10 C11 C12 C13 C14 C15 C16 C17 f1 f2 f3 f4 f5 f6 : Addr} (X : K.In h) (G : h.Ns mainGlobals mg) (hfa : mg "law" = some (.ref fa))
    (E0 : ErrAll l.prog w K mg "NoTerm" "value" C0) (E1 : ErrAll l.prog w K mg "NoDeed" "value" C1) (E2 : ErrAll l.prog w K mg "NoProcess" "part" C2) (E3 : ErrAll l.prog w K mg "NoProgram" "part" C3) (E4 : ErrAll l.prog w K mg "NoPattern" "value" C4) (E5 : ErrAll l.prog w K mg "NoStart" "value" C5)
    (E6 : ErrAll l.prog w K mg "NoMove" "index" C6) (E7 : ErrAll l.prog w K mg "NothingBack" "many" C7) (E8 : ErrAll l.prog w K mg "NoNumber" "value" C8) (E9 : ErrAll l.prog w K mg "NoPlace" "value" C9) (E10 : ErrAll l.prog w K mg "NoPair" "value" C10) (E11 : ErrAll l.prog w K mg "NoNote" "line" C11)
    (E12 : ErrAll l.prog w K mg "NoOrder" "value" C12) (E13 : ErrAll l.prog w K mg "NoFault" "value" C13) (E14 : ErrAll l.prog w K mg "NoPlan" "value" C14) (E15 : ErrAll l.prog w K mg "TooMany" "most" C15) (E16 : ErrAll l.prog w K mg "NoName" "who" C16) (E17 : ErrAll l.prog w K mg "NeverEnds" "many" C17)
    {od1 an1 od2 an2 od3 an3 od4 an4 od5 an5 od6 an6 : Option Addr} {sl1 sl2 sl3 sl4 sl5 sl6 : Array (Option Value)} {oc1 kV1 dc1 pm1 cd1 ct1 oc2 kV2 dc2 pm2 cd2 ct2 oc3 kV3 dc3 pm3 cd3 ct3 oc4 kV4 dc4 pm4 cd4 ct4 oc5 kV5 dc5 pm5 cd5 ct5 oc6 kV6 dc6 pm6 cd6 ct6 : Value}
    (at' : nsIn K mainGlobals "TiedError" = some (some (.ref ct))) (kt : kitTab K (cOf [C0, C1, C2, C3, C4, C5, C6, C7, C8, C9, C10, C11, C12, C13, C14, C15, C16, C17]) ct = true)
    (a1 : nsIn K mainGlobals "_law_pool" = some (some (.ref f1))) (l1 : K.lookup f1 = some ⟨oc1, od1, .func (fnOf "_law_pool" "_law_pool" (defArgs sPool) (defBody sPool) (defScope sPool) .none kV1 dc1 pm1 an1 cd1 ct1), sl1⟩) (c1 : codeIn K cd1 "_law_pool" = true) (k1 : keepIn K (.ref f1) = true)
    (a2 : nsIn K mainGlobals "_law_take" = some (some (.ref f2))) (l2 : K.lookup f2 = some ⟨oc2, od2, .func (fnOf "_law_take" "_law_take" (defArgs sTake) (defBody sTake) (defScope sTake) .none kV2 dc2 pm2 an2 cd2 ct2), sl2⟩) (c2 : codeIn K cd2 "_law_take" = true) (k2 : keepIn K (.ref f2) = true)
    (a3 : nsIn K mainGlobals "_law_kept_right" = some (some (.ref f3))) (l3 : K.lookup f3 = some ⟨oc3, od3, .func (fnOf "_law_kept_right" "_law_kept_right" (defArgs sKept) (defBody sKept) (defScope sKept) .none kV3 dc3 pm3 an3 cd3 ct3), sl3⟩) (c3 : codeIn K cd3 "_law_kept_right" = true) (k3 : keepIn K (.ref f3) = true)
    (a4 : nsIn K mainGlobals "_law_classes" = some (some (.ref f4))) (l4 : K.lookup f4 = some ⟨oc4, od4, .func (fnOf "_law_classes" "_law_classes" (defArgs sCls) (defBody sCls) (defScope sCls) .none kV4 dc4 pm4 an4 cd4 ct4), sl4⟩) (c4 : codeIn K cd4 "_law_classes" = true) (k4 : keepIn K (.ref f4) = true)
    (a5 : nsIn K mainGlobals "_law_stand_right" = some (some (.ref f5))) (l5 : K.lookup f5 = some ⟨oc5, od5, .func (fnOf "_law_stand_right" "_law_stand_right" (defArgs sStand) (defBody sStand) (defScope sStand) .none kV5 dc5 pm5 an5 cd5 ct5), sl5⟩) (c5 : codeIn K cd5 "_law_stand_right" = true) (k5 : keepIn K (.ref f5) = true)
    (a6 : nsIn K mainGlobals "law" = some (some (.ref f6))) (l6 : K.lookup f6 = some ⟨oc6, od6, .func (fnOf "law" "law" (defArgs sLaw) (defBody sLaw) (defScope sLaw) .none kV6 dc6 pm6 an6 cd6 ct6), sl6⟩) (c6 : codeIn K cd6 "law" = true) (k6 : keepIn K (.ref f6) = true)
    (z1 : nsIn K mainGlobals "len" = some none) (z2 : nsIn K mainGlobals "max" = some none) (z3 : nsIn K mainGlobals "min" = some none) (z4 : nsIn K mainGlobals "int" = some none) (z5 : nsIn K mainGlobals "range" = some none) (z6 : nsIn K mainGlobals "repr" = some none) (z7 : nsIn K mainGlobals "isinstance" = some none)
    (z8 : nsIn K mainGlobals "enumerate" = some none) (z9 : nsIn K mainGlobals "ValueError" = some none) (z10 : nsIn K mainGlobals "OverflowError" = some none) (z11 : nsIn K mainGlobals "KeyError" = some none) (z12 : nsIn K mainGlobals "RuntimeError" = some none) :
    ∃ fd : FuncData, (∀ (s : Shared) (v : Value), BindsTo s fd ⟨[v], []⟩ [("script", v)]) ∧ ∀ base : Heap, K.In base → base.Ns mainGlobals mg → FnG l.prog w K mg base 4 fa fd ["script"] (spLaw K) := by
  have e := hfa.symm.trans (mg_of X G a6)
  cases e
  have F1 := fun_mk (st := sPool) l1 c1 k1
  have F2 := fun_mk (st := sTake) l2 c2 k2
  have F3 := fun_mk (st := sKept) l3 c3 k3
  have F4 := fun_mk (st := sCls) l4 c4 k4
  have F5 := fun_mk (st := sStand) l5 c5 k5
  have F6 := fun_mk (st := sLaw) l6 c6 k6
  have b1 := F1.binds (ps := ["script", "k"]) fun _ _ _ _ _ _ us hl => match us, hl with | [_, _], _ => rfl
  have b2 := F2.binds (ps := ["pool", "bound"]) fun _ _ _ _ _ _ us hl => match us, hl with | [_, _], _ => rfl
  have b3 := F3.binds (ps := ["thing"]) fun _ _ _ _ _ _ us hl => match us, hl with | [_], _ => rfl
  have b4 := F4.binds (ps := ["e"]) fun _ _ _ _ _ _ us hl => match us, hl with | [_], _ => rfl
  have b5 := F5.binds (ps := ["thing"]) fun _ _ _ _ _ _ us hl => match us, hl with | [_], _ => rfl
  have PT : PoolT mg := ⟨mg_none_of X G z1, mg_none_of X G z2, mg_none_of X G z4⟩
  have ST : StandT mg ct := ⟨mg_none_of X G z7, mg_of X G at', mg_none_of X G z9, mg_none_of X G z10, mg_none_of X G z11, mg_none_of X G z12, mg_none_of X G z8, mg_none_of X G z5⟩
  have LT : LawT mg := ⟨mg_none_of X G z5, mg_none_of X G z2, mg_none_of X G z3, mg_none_of X G z1⟩
  have Z := kit_of_tab kt
  have R : ∀ base, Errs l.prog w K mg base (cOf [C0, C1, C2, C3, C4, C5, C6, C7, C8, C9, C10, C11, C12, C13, C14, C15, C16, C17]) := fun base =>
    ⟨E0.1 base, E1.1 base, E2.1 base, E3.1 base, E4.1 base, E5.1 base, E6.1 base, E7.1 base, E8.1 base, E9.1 base, E10.1 base, E11.1 base, E12.1 base, E13.1 base, E14.1 base, E15.1 base, E16.1 base, E17.1 base⟩
  have ix : ∀ i, IsX K (cOf [C0, C1, C2, C3, C4, C5, C6, C7, C8, C9, C10, C11, C12, C13, C14, C15, C16, C17] i) := by
    rintro ⟨i, hi⟩
    rcases i with _ | _ | _ | _ | _ | _ | _ | _ | _ | _ | _ | _ | _ | _ | _ | _ | _ | _ | i
    · exact E0.2
    · exact E1.2
    · exact E2.2
    · exact E3.2
    · exact E4.2
    · exact E5.2
    · exact E6.2
    · exact E7.2
    · exact E8.2
    · exact E9.2
    · exact E10.2
    · exact E11.2
    · exact E12.2
    · exact E13.2
    · exact E14.2
    · exact E15.2
    · exact E16.2
    · exact E17.2
    · omega
  refine ⟨fnOf "law" "law" (defArgs sLaw) (defBody sLaw) (defScope sLaw) .none kV6 dc6 pm6 an6 cd6 ct6, fun s v => .of_eq rfl, fun base _ _ => ?_⟩
  have Gc := ok_cls (P := l.prog) (w := w) (mg := mg) (base := base) F4 (R base) Z ix ST.isi
  exact ok_law F6 LT (ok_pool F1 PT) b1 k1 (mg_of X G a1) (ok_take F2 PT) b2 k2 (mg_of X G a2) (ok_kept F3 (R base) (mg_none_of X G z6)) b3 k3 (mg_of X G a3) (ok_stand F5 (R base) Z ix ST Gc b4 k4 (mg_of X G a4)) b5 k5 (mg_of X G a5)
end TS
open PySem PySem.W PyProof.Rows
set_option maxRecDepth 100000 in
set_option maxHeartbeats 0 in
theorem PySem.Challenge.cw_tiedsteps_k33_errors_told_holds : PySem.Challenge.rw_tiedsteps_k33_errors_told.Holds := by
  w_on; o_law; k_head; (case hw => w_witness2)
  k_fill
  refine TS.walkG (k := 4) (l := PySem.Challenge.rw_tiedsteps_k33_errors_told) rfl rfl ⟨rfl, by decide, by decide⟩ (fun w h Y => PySem.W.kIn_of Y) ?F
  case F =>
    intro w mg fa h KX G hmg
    refine' TS.err_mk (P := PySem.Challenge.pw_tiedsteps_k33_errors_told) (w := w) (x := "NoTerm") (arg := "value") (qual := "NoTerm.__init__") KX G TS.valBase TS.ao_value TS.file_ok TS.top_ok ?yhn ?yhtk ?yho ?ysu ?yaC ?yxL ?yxT ?ysa ?yexC ?ytyC ?ykC ?yga ?ygg ?yhd ?yhc ?yha ?ymo ?yno ?yiC ?ytI ?ylk ?ylc ?yfl ?yle ?yms ?ycd ?ysi ?ysB ?ySO ?ykb ?ypb ?_
    (case yhn => k_is); (case yhtk => k_is); (case yho => k_is); (case ysu => k_is); (case yaC => k_is); (case yxL => k_is); (case yxT => rfl); (case ysa => k_is); (case yexC => k_is); (case ytyC => k_is)
    (case ykC => k_is); (case yga => k_is); (case ygg => k_is); (case yhd => k_is); (case yhc => k_is); (case yha => k_is); (case ymo => k_is); (case yno => k_is); (case yiC => k_is); (case ytI => k_is)
    (case ylk => k_is); (case ylc => k_is); (case yfl => rfl); (case yle => k_is); (case yms => k_is); (case ycd => k_is); (case ysi => kernel_rfl); (case ysB => k_is); (case ySO => exact fun env => ⟨_, rfl⟩); (case ykb => exact fun _ _ => rfl); (case ypb => exact fun _ _ => rfl)
    intro E0
    refine' TS.err_mk (P := PySem.Challenge.pw_tiedsteps_k33_errors_told) (w := w) (x := "NoDeed") (arg := "value") (qual := "NoDeed.__init__") KX G TS.valBase TS.ao_value TS.file_ok TS.top_ok ?yhn ?yhtk ?yho ?ysu ?yaC ?yxL ?yxT ?ysa ?yexC ?ytyC ?ykC ?yga ?ygg ?yhd ?yhc ?yha ?ymo ?yno ?yiC ?ytI ?ylk ?ylc ?yfl ?yle ?yms ?ycd ?ysi ?ysB ?ySO ?ykb ?ypb ?_
    (case yhn => k_is); (case yhtk => k_is); (case yho => k_is); (case ysu => k_is); (case yaC => k_is); (case yxL => k_is); (case yxT => rfl); (case ysa => k_is); (case yexC => k_is); (case ytyC => k_is)
    (case ykC => k_is); (case yga => k_is); (case ygg => k_is); (case yhd => k_is); (case yhc => k_is); (case yha => k_is); (case ymo => k_is); (case yno => k_is); (case yiC => k_is); (case ytI => k_is)
    (case ylk => k_is); (case ylc => k_is); (case yfl => rfl); (case yle => k_is); (case yms => k_is); (case ycd => k_is); (case ysi => kernel_rfl); (case ysB => k_is); (case ySO => exact fun env => ⟨_, rfl⟩); (case ykb => exact fun _ _ => rfl); (case ypb => exact fun _ _ => rfl)
    intro E1
    refine' TS.err_mk (P := PySem.Challenge.pw_tiedsteps_k33_errors_told) (w := w) (x := "NoProcess") (arg := "part") (qual := "NoProcess.__init__") KX G TS.valBase TS.ao_part TS.file_ok TS.top_ok ?yhn ?yhtk ?yho ?ysu ?yaC ?yxL ?yxT ?ysa ?yexC ?ytyC ?ykC ?yga ?ygg ?yhd ?yhc ?yha ?ymo ?yno ?yiC ?ytI ?ylk ?ylc ?yfl ?yle ?yms ?ycd ?ysi ?ysB ?ySO ?ykb ?ypb ?_
    (case yhn => k_is); (case yhtk => k_is); (case yho => k_is); (case ysu => k_is); (case yaC => k_is); (case yxL => k_is); (case yxT => rfl); (case ysa => k_is); (case yexC => k_is); (case ytyC => k_is)
    (case ykC => k_is); (case yga => k_is); (case ygg => k_is); (case yhd => k_is); (case yhc => k_is); (case yha => k_is); (case ymo => k_is); (case yno => k_is); (case yiC => k_is); (case ytI => k_is)
    (case ylk => k_is); (case ylc => k_is); (case yfl => rfl); (case yle => k_is); (case yms => k_is); (case ycd => k_is); (case ysi => kernel_rfl); (case ysB => k_is); (case ySO => exact fun env => ⟨_, rfl⟩); (case ykb => exact fun _ _ => rfl); (case ypb => exact fun _ _ => rfl)
    intro E2
    refine' TS.err_mk (P := PySem.Challenge.pw_tiedsteps_k33_errors_told) (w := w) (x := "NoProgram") (arg := "part") (qual := "NoProgram.__init__") KX G TS.valBase TS.ao_part TS.file_ok TS.top_ok ?yhn ?yhtk ?yho ?ysu ?yaC ?yxL ?yxT ?ysa ?yexC ?ytyC ?ykC ?yga ?ygg ?yhd ?yhc ?yha ?ymo ?yno ?yiC ?ytI ?ylk ?ylc ?yfl ?yle ?yms ?ycd ?ysi ?ysB ?ySO ?ykb ?ypb ?_
    (case yhn => k_is); (case yhtk => k_is); (case yho => k_is); (case ysu => k_is); (case yaC => k_is); (case yxL => k_is); (case yxT => rfl); (case ysa => k_is); (case yexC => k_is); (case ytyC => k_is)
    (case ykC => k_is); (case yga => k_is); (case ygg => k_is); (case yhd => k_is); (case yhc => k_is); (case yha => k_is); (case ymo => k_is); (case yno => k_is); (case yiC => k_is); (case ytI => k_is)
    (case ylk => k_is); (case ylc => k_is); (case yfl => rfl); (case yle => k_is); (case yms => k_is); (case ycd => k_is); (case ysi => kernel_rfl); (case ysB => k_is); (case ySO => exact fun env => ⟨_, rfl⟩); (case ykb => exact fun _ _ => rfl); (case ypb => exact fun _ _ => rfl)
    intro E3
    refine' TS.err_mk (P := PySem.Challenge.pw_tiedsteps_k33_errors_told) (w := w) (x := "NoPattern") (arg := "value") (qual := "NoPattern.__init__") KX G TS.valBase TS.ao_value TS.file_ok TS.top_ok ?yhn ?yhtk ?yho ?ysu ?yaC ?yxL ?yxT ?ysa ?yexC ?ytyC ?ykC ?yga ?ygg ?yhd ?yhc ?yha ?ymo ?yno ?yiC ?ytI ?ylk ?ylc ?yfl ?yle ?yms ?ycd ?ysi ?ysB ?ySO ?ykb ?ypb ?_
    (case yhn => k_is); (case yhtk => k_is); (case yho => k_is); (case ysu => k_is); (case yaC => k_is); (case yxL => k_is); (case yxT => rfl); (case ysa => k_is); (case yexC => k_is); (case ytyC => k_is)
    (case ykC => k_is); (case yga => k_is); (case ygg => k_is); (case yhd => k_is); (case yhc => k_is); (case yha => k_is); (case ymo => k_is); (case yno => k_is); (case yiC => k_is); (case ytI => k_is)
    (case ylk => k_is); (case ylc => k_is); (case yfl => rfl); (case yle => k_is); (case yms => k_is); (case ycd => k_is); (case ysi => kernel_rfl); (case ysB => k_is); (case ySO => exact fun env => ⟨_, rfl⟩); (case ykb => exact fun _ _ => rfl); (case ypb => exact fun _ _ => rfl)
    intro E4
    refine' TS.err_mk (P := PySem.Challenge.pw_tiedsteps_k33_errors_told) (w := w) (x := "NoStart") (arg := "value") (qual := "NoStart.__init__") KX G TS.valBase TS.ao_value TS.file_ok TS.top_ok ?yhn ?yhtk ?yho ?ysu ?yaC ?yxL ?yxT ?ysa ?yexC ?ytyC ?ykC ?yga ?ygg ?yhd ?yhc ?yha ?ymo ?yno ?yiC ?ytI ?ylk ?ylc ?yfl ?yle ?yms ?ycd ?ysi ?ysB ?ySO ?ykb ?ypb ?_
    (case yhn => k_is); (case yhtk => k_is); (case yho => k_is); (case ysu => k_is); (case yaC => k_is); (case yxL => k_is); (case yxT => rfl); (case ysa => k_is); (case yexC => k_is); (case ytyC => k_is)
    (case ykC => k_is); (case yga => k_is); (case ygg => k_is); (case yhd => k_is); (case yhc => k_is); (case yha => k_is); (case ymo => k_is); (case yno => k_is); (case yiC => k_is); (case ytI => k_is)
    (case ylk => k_is); (case ylc => k_is); (case yfl => rfl); (case yle => k_is); (case yms => k_is); (case ycd => k_is); (case ysi => kernel_rfl); (case ysB => k_is); (case ySO => exact fun env => ⟨_, rfl⟩); (case ykb => exact fun _ _ => rfl); (case ypb => exact fun _ _ => rfl)
    intro E5
    refine' TS.err_mk (P := PySem.Challenge.pw_tiedsteps_k33_errors_told) (w := w) (x := "NoMove") (arg := "index") (qual := "NoMove.__init__") KX G TS.valBase TS.ao_index TS.file_ok TS.top_ok ?yhn ?yhtk ?yho ?ysu ?yaC ?yxL ?yxT ?ysa ?yexC ?ytyC ?ykC ?yga ?ygg ?yhd ?yhc ?yha ?ymo ?yno ?yiC ?ytI ?ylk ?ylc ?yfl ?yle ?yms ?ycd ?ysi ?ysB ?ySO ?ykb ?ypb ?_
    (case yhn => k_is); (case yhtk => k_is); (case yho => k_is); (case ysu => k_is); (case yaC => k_is); (case yxL => k_is); (case yxT => rfl); (case ysa => k_is); (case yexC => k_is); (case ytyC => k_is)
    (case ykC => k_is); (case yga => k_is); (case ygg => k_is); (case yhd => k_is); (case yhc => k_is); (case yha => k_is); (case ymo => k_is); (case yno => k_is); (case yiC => k_is); (case ytI => k_is)
    (case ylk => k_is); (case ylc => k_is); (case yfl => rfl); (case yle => k_is); (case yms => k_is); (case ycd => k_is); (case ysi => kernel_rfl); (case ysB => k_is); (case ySO => exact fun env => ⟨_, rfl⟩); (case ykb => exact fun _ _ => rfl); (case ypb => exact fun _ _ => rfl)
    intro E6
    refine' TS.err_mk (P := PySem.Challenge.pw_tiedsteps_k33_errors_told) (w := w) (x := "NothingBack") (arg := "many") (qual := "NothingBack.__init__") KX G TS.valBase TS.ao_many TS.file_ok TS.top_ok ?yhn ?yhtk ?yho ?ysu ?yaC ?yxL ?yxT ?ysa ?yexC ?ytyC ?ykC ?yga ?ygg ?yhd ?yhc ?yha ?ymo ?yno ?yiC ?ytI ?ylk ?ylc ?yfl ?yle ?yms ?ycd ?ysi ?ysB ?ySO ?ykb ?ypb ?_
    (case yhn => k_is); (case yhtk => k_is); (case yho => k_is); (case ysu => k_is); (case yaC => k_is); (case yxL => k_is); (case yxT => rfl); (case ysa => k_is); (case yexC => k_is); (case ytyC => k_is)
    (case ykC => k_is); (case yga => k_is); (case ygg => k_is); (case yhd => k_is); (case yhc => k_is); (case yha => k_is); (case ymo => k_is); (case yno => k_is); (case yiC => k_is); (case ytI => k_is)
    (case ylk => k_is); (case ylc => k_is); (case yfl => rfl); (case yle => k_is); (case yms => k_is); (case ycd => k_is); (case ysi => kernel_rfl); (case ysB => k_is); (case ySO => exact fun env => ⟨_, rfl⟩); (case ykb => exact fun _ _ => rfl); (case ypb => exact fun _ _ => rfl)
    intro E7
    refine' TS.err_mk (P := PySem.Challenge.pw_tiedsteps_k33_errors_told) (w := w) (x := "NoNumber") (arg := "value") (qual := "NoNumber.__init__") KX G TS.valBase TS.ao_value TS.file_ok TS.top_ok ?yhn ?yhtk ?yho ?ysu ?yaC ?yxL ?yxT ?ysa ?yexC ?ytyC ?ykC ?yga ?ygg ?yhd ?yhc ?yha ?ymo ?yno ?yiC ?ytI ?ylk ?ylc ?yfl ?yle ?yms ?ycd ?ysi ?ysB ?ySO ?ykb ?ypb ?_
    (case yhn => k_is); (case yhtk => k_is); (case yho => k_is); (case ysu => k_is); (case yaC => k_is); (case yxL => k_is); (case yxT => rfl); (case ysa => k_is); (case yexC => k_is); (case ytyC => k_is)
    (case ykC => k_is); (case yga => k_is); (case ygg => k_is); (case yhd => k_is); (case yhc => k_is); (case yha => k_is); (case ymo => k_is); (case yno => k_is); (case yiC => k_is); (case ytI => k_is)
    (case ylk => k_is); (case ylc => k_is); (case yfl => rfl); (case yle => k_is); (case yms => k_is); (case ycd => k_is); (case ysi => kernel_rfl); (case ysB => k_is); (case ySO => exact fun env => ⟨_, rfl⟩); (case ykb => exact fun _ _ => rfl); (case ypb => exact fun _ _ => rfl)
    intro E8
    refine' TS.err_mk (P := PySem.Challenge.pw_tiedsteps_k33_errors_told) (w := w) (x := "NoPlace") (arg := "value") (qual := "NoPlace.__init__") KX G TS.valBase TS.ao_value TS.file_ok TS.top_ok ?yhn ?yhtk ?yho ?ysu ?yaC ?yxL ?yxT ?ysa ?yexC ?ytyC ?ykC ?yga ?ygg ?yhd ?yhc ?yha ?ymo ?yno ?yiC ?ytI ?ylk ?ylc ?yfl ?yle ?yms ?ycd ?ysi ?ysB ?ySO ?ykb ?ypb ?_
    (case yhn => k_is); (case yhtk => k_is); (case yho => k_is); (case ysu => k_is); (case yaC => k_is); (case yxL => k_is); (case yxT => rfl); (case ysa => k_is); (case yexC => k_is); (case ytyC => k_is)
    (case ykC => k_is); (case yga => k_is); (case ygg => k_is); (case yhd => k_is); (case yhc => k_is); (case yha => k_is); (case ymo => k_is); (case yno => k_is); (case yiC => k_is); (case ytI => k_is)
    (case ylk => k_is); (case ylc => k_is); (case yfl => rfl); (case yle => k_is); (case yms => k_is); (case ycd => k_is); (case ysi => kernel_rfl); (case ysB => k_is); (case ySO => exact fun env => ⟨_, rfl⟩); (case ykb => exact fun _ _ => rfl); (case ypb => exact fun _ _ => rfl)
    intro E9
    refine' TS.err_mk (P := PySem.Challenge.pw_tiedsteps_k33_errors_told) (w := w) (x := "NoPair") (arg := "value") (qual := "NoPair.__init__") KX G TS.valBase TS.ao_value TS.file_ok TS.top_ok ?yhn ?yhtk ?yho ?ysu ?yaC ?yxL ?yxT ?ysa ?yexC ?ytyC ?ykC ?yga ?ygg ?yhd ?yhc ?yha ?ymo ?yno ?yiC ?ytI ?ylk ?ylc ?yfl ?yle ?yms ?ycd ?ysi ?ysB ?ySO ?ykb ?ypb ?_
    (case yhn => k_is); (case yhtk => k_is); (case yho => k_is); (case ysu => k_is); (case yaC => k_is); (case yxL => k_is); (case yxT => rfl); (case ysa => k_is); (case yexC => k_is); (case ytyC => k_is)
    (case ykC => k_is); (case yga => k_is); (case ygg => k_is); (case yhd => k_is); (case yhc => k_is); (case yha => k_is); (case ymo => k_is); (case yno => k_is); (case yiC => k_is); (case ytI => k_is)
    (case ylk => k_is); (case ylc => k_is); (case yfl => rfl); (case yle => k_is); (case yms => k_is); (case ycd => k_is); (case ysi => kernel_rfl); (case ysB => k_is); (case ySO => exact fun env => ⟨_, rfl⟩); (case ykb => exact fun _ _ => rfl); (case ypb => exact fun _ _ => rfl)
    intro E10
    refine' TS.err_mk (P := PySem.Challenge.pw_tiedsteps_k33_errors_told) (w := w) (x := "NoNote") (arg := "line") (qual := "NoNote.__init__") KX G TS.valBase TS.ao_line TS.file_ok TS.top_ok ?yhn ?yhtk ?yho ?ysu ?yaC ?yxL ?yxT ?ysa ?yexC ?ytyC ?ykC ?yga ?ygg ?yhd ?yhc ?yha ?ymo ?yno ?yiC ?ytI ?ylk ?ylc ?yfl ?yle ?yms ?ycd ?ysi ?ysB ?ySO ?ykb ?ypb ?_
    (case yhn => k_is); (case yhtk => k_is); (case yho => k_is); (case ysu => k_is); (case yaC => k_is); (case yxL => k_is); (case yxT => rfl); (case ysa => k_is); (case yexC => k_is); (case ytyC => k_is)
    (case ykC => k_is); (case yga => k_is); (case ygg => k_is); (case yhd => k_is); (case yhc => k_is); (case yha => k_is); (case ymo => k_is); (case yno => k_is); (case yiC => k_is); (case ytI => k_is)
    (case ylk => k_is); (case ylc => k_is); (case yfl => rfl); (case yle => k_is); (case yms => k_is); (case ycd => k_is); (case ysi => kernel_rfl); (case ysB => k_is); (case ySO => exact fun env => ⟨_, rfl⟩); (case ykb => exact fun _ _ => rfl); (case ypb => exact fun _ _ => rfl)
    intro E11
    refine' TS.err_mk (P := PySem.Challenge.pw_tiedsteps_k33_errors_told) (w := w) (x := "NoOrder") (arg := "value") (qual := "NoOrder.__init__") KX G TS.valBase TS.ao_value TS.file_ok TS.top_ok ?yhn ?yhtk ?yho ?ysu ?yaC ?yxL ?yxT ?ysa ?yexC ?ytyC ?ykC ?yga ?ygg ?yhd ?yhc ?yha ?ymo ?yno ?yiC ?ytI ?ylk ?ylc ?yfl ?yle ?yms ?ycd ?ysi ?ysB ?ySO ?ykb ?ypb ?_
    (case yhn => k_is); (case yhtk => k_is); (case yho => k_is); (case ysu => k_is); (case yaC => k_is); (case yxL => k_is); (case yxT => rfl); (case ysa => k_is); (case yexC => k_is); (case ytyC => k_is)
    (case ykC => k_is); (case yga => k_is); (case ygg => k_is); (case yhd => k_is); (case yhc => k_is); (case yha => k_is); (case ymo => k_is); (case yno => k_is); (case yiC => k_is); (case ytI => k_is)
    (case ylk => k_is); (case ylc => k_is); (case yfl => rfl); (case yle => k_is); (case yms => k_is); (case ycd => k_is); (case ysi => kernel_rfl); (case ysB => k_is); (case ySO => exact fun env => ⟨_, rfl⟩); (case ykb => exact fun _ _ => rfl); (case ypb => exact fun _ _ => rfl)
    intro E12
    refine' TS.err_mk (P := PySem.Challenge.pw_tiedsteps_k33_errors_told) (w := w) (x := "NoFault") (arg := "value") (qual := "NoFault.__init__") KX G TS.valBase TS.ao_value TS.file_ok TS.top_ok ?yhn ?yhtk ?yho ?ysu ?yaC ?yxL ?yxT ?ysa ?yexC ?ytyC ?ykC ?yga ?ygg ?yhd ?yhc ?yha ?ymo ?yno ?yiC ?ytI ?ylk ?ylc ?yfl ?yle ?yms ?ycd ?ysi ?ysB ?ySO ?ykb ?ypb ?_
    (case yhn => k_is); (case yhtk => k_is); (case yho => k_is); (case ysu => k_is); (case yaC => k_is); (case yxL => k_is); (case yxT => rfl); (case ysa => k_is); (case yexC => k_is); (case ytyC => k_is)
    (case ykC => k_is); (case yga => k_is); (case ygg => k_is); (case yhd => k_is); (case yhc => k_is); (case yha => k_is); (case ymo => k_is); (case yno => k_is); (case yiC => k_is); (case ytI => k_is)
    (case ylk => k_is); (case ylc => k_is); (case yfl => rfl); (case yle => k_is); (case yms => k_is); (case ycd => k_is); (case ysi => kernel_rfl); (case ysB => k_is); (case ySO => exact fun env => ⟨_, rfl⟩); (case ykb => exact fun _ _ => rfl); (case ypb => exact fun _ _ => rfl)
    intro E13
    refine' TS.err_mk (P := PySem.Challenge.pw_tiedsteps_k33_errors_told) (w := w) (x := "NoPlan") (arg := "value") (qual := "NoPlan.__init__") KX G TS.valBase TS.ao_value TS.file_ok TS.top_ok ?yhn ?yhtk ?yho ?ysu ?yaC ?yxL ?yxT ?ysa ?yexC ?ytyC ?ykC ?yga ?ygg ?yhd ?yhc ?yha ?ymo ?yno ?yiC ?ytI ?ylk ?ylc ?yfl ?yle ?yms ?ycd ?ysi ?ysB ?ySO ?ykb ?ypb ?_
    (case yhn => k_is); (case yhtk => k_is); (case yho => k_is); (case ysu => k_is); (case yaC => k_is); (case yxL => k_is); (case yxT => rfl); (case ysa => k_is); (case yexC => k_is); (case ytyC => k_is)
    (case ykC => k_is); (case yga => k_is); (case ygg => k_is); (case yhd => k_is); (case yhc => k_is); (case yha => k_is); (case ymo => k_is); (case yno => k_is); (case yiC => k_is); (case ytI => k_is)
    (case ylk => k_is); (case ylc => k_is); (case yfl => rfl); (case yle => k_is); (case yms => k_is); (case ycd => k_is); (case ysi => kernel_rfl); (case ysB => k_is); (case ySO => exact fun env => ⟨_, rfl⟩); (case ykb => exact fun _ _ => rfl); (case ypb => exact fun _ _ => rfl)
    intro E14
    refine' TS.err_mk (P := PySem.Challenge.pw_tiedsteps_k33_errors_told) (w := w) (x := "TooMany") (arg := "most") (qual := "TooMany.__init__") KX G TS.ovfBase TS.ao_most TS.file_ok TS.top_ok ?yhn ?yhtk ?yho ?ysu ?yaC ?yxL ?yxT ?ysa ?yexC ?ytyC ?ykC ?yga ?ygg ?yhd ?yhc ?yha ?ymo ?yno ?yiC ?ytI ?ylk ?ylc ?yfl ?yle ?yms ?ycd ?ysi ?ysB ?ySO ?ykb ?ypb ?_
    (case yhn => k_is); (case yhtk => k_is); (case yho => k_is); (case ysu => k_is); (case yaC => k_is); (case yxL => k_is); (case yxT => rfl); (case ysa => k_is); (case yexC => k_is); (case ytyC => k_is)
    (case ykC => k_is); (case yga => k_is); (case ygg => k_is); (case yhd => k_is); (case yhc => k_is); (case yha => k_is); (case ymo => k_is); (case yno => k_is); (case yiC => k_is); (case ytI => k_is)
    (case ylk => k_is); (case ylc => k_is); (case yfl => rfl); (case yle => k_is); (case yms => k_is); (case ycd => k_is); (case ysi => kernel_rfl); (case ysB => k_is); (case ySO => exact fun env => ⟨_, rfl⟩); (case ykb => exact fun _ _ => rfl); (case ypb => exact fun _ _ => rfl)
    intro E15
    refine' TS.err_mk (P := PySem.Challenge.pw_tiedsteps_k33_errors_told) (w := w) (x := "NoName") (arg := "who") (qual := "NoName.__init__") KX G TS.keyBase TS.ao_who TS.file_ok TS.top_ok ?yhn ?yhtk ?yho ?ysu ?yaC ?yxL ?yxT ?ysa ?yexC ?ytyC ?ykC ?yga ?ygg ?yhd ?yhc ?yha ?ymo ?yno ?yiC ?ytI ?ylk ?ylc ?yfl ?yle ?yms ?ycd ?ysi ?ysB ?ySO ?ykb ?ypb ?_
    (case yhn => k_is); (case yhtk => k_is); (case yho => k_is); (case ysu => k_is); (case yaC => k_is); (case yxL => k_is); (case yxT => rfl); (case ysa => k_is); (case yexC => k_is); (case ytyC => k_is)
    (case ykC => k_is); (case yga => k_is); (case ygg => k_is); (case yhd => k_is); (case yhc => k_is); (case yha => k_is); (case ymo => k_is); (case yno => k_is); (case yiC => k_is); (case ytI => k_is)
    (case ylk => k_is); (case ylc => k_is); (case yfl => rfl); (case yle => k_is); (case yms => k_is); (case ycd => k_is); (case ysi => kernel_rfl); (case ysB => k_is); (case ySO => exact fun env => ⟨_, rfl⟩); (case ykb => exact fun _ _ => rfl); (case ypb => exact fun _ _ => rfl)
    intro E16
    refine' TS.err_mk (P := PySem.Challenge.pw_tiedsteps_k33_errors_told) (w := w) (x := "NeverEnds") (arg := "many") (qual := "NeverEnds.__init__") KX G TS.runBase TS.ao_many TS.file_ok TS.top_ok ?yhn ?yhtk ?yho ?ysu ?yaC ?yxL ?yxT ?ysa ?yexC ?ytyC ?ykC ?yga ?ygg ?yhd ?yhc ?yha ?ymo ?yno ?yiC ?ytI ?ylk ?ylc ?yfl ?yle ?yms ?ycd ?ysi ?ysB ?ySO ?ykb ?ypb ?_
    (case yhn => k_is); (case yhtk => k_is); (case yho => k_is); (case ysu => k_is); (case yaC => k_is); (case yxL => k_is); (case yxT => rfl); (case ysa => k_is); (case yexC => k_is); (case ytyC => k_is)
    (case ykC => k_is); (case yga => k_is); (case ygg => k_is); (case yhd => k_is); (case yhc => k_is); (case yha => k_is); (case ymo => k_is); (case yno => k_is); (case yiC => k_is); (case ytI => k_is)
    (case ylk => k_is); (case ylc => k_is); (case yfl => rfl); (case yle => k_is); (case yms => k_is); (case ycd => k_is); (case ysi => kernel_rfl); (case ysB => k_is); (case ySO => exact fun env => ⟨_, rfl⟩); (case ykb => exact fun _ _ => rfl); (case ypb => exact fun _ _ => rfl)
    intro E17
    refine' TS.all_mk (l := PySem.Challenge.rw_tiedsteps_k33_errors_told) KX G hmg E0 E1 E2 E3 E4 E5 E6 E7 E8 E9 E10 E11 E12 E13 E14 E15 E16 E17 ?yatt ?ykt ?ya1 ?yl1 ?yc1 ?yk1 ?ya2 ?yl2 ?yc2 ?yk2 ?ya3 ?yl3 ?yc3 ?yk3 ?ya4 ?yl4 ?yc4 ?yk4 ?ya5 ?yl5 ?yc5 ?yk5 ?ya6 ?yl6 ?yc6 ?yk6 ?yz1 ?yz2 ?yz3 ?yz4 ?yz5 ?yz6 ?yz7 ?yz8 ?yz9 ?yz10 ?yz11 ?yz12
    (case yatt => k_is); (case ykt => kernel_rfl); (case ya1 => k_is); (case yl1 => k_is); (case yc1 => k_is); (case yk1 => k_is); (case ya2 => k_is); (case yl2 => k_is); (case yc2 => k_is); (case yk2 => k_is)
    (case ya3 => k_is); (case yl3 => k_is); (case yc3 => k_is); (case yk3 => k_is); (case ya4 => k_is); (case yl4 => k_is); (case yc4 => k_is); (case yk4 => k_is); (case ya5 => k_is); (case yl5 => k_is)
    (case yc5 => k_is); (case yk5 => k_is); (case ya6 => k_is); (case yl6 => k_is); (case yc6 => k_is); (case yk6 => k_is); (case yz1 => k_is); (case yz2 => k_is); (case yz3 => k_is); (case yz4 => k_is)
    (case yz5 => k_is); (case yz6 => k_is); (case yz7 => k_is); (case yz8 => k_is); (case yz9 => k_is); (case yz10 => k_is); (case yz11 => k_is); (case yz12 => k_is)
#print axioms PySem.Challenge.cw_tiedsteps_k33_errors_told_holds
