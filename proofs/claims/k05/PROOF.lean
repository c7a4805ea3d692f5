import PyProof.Rows.All
import Wide.All
import OpenK.AllK
import Wide.FinOn
import HandS.ForMost
import HandS.Codes
import HandS.IsInst
import HandS.Property
import HandS.Star
import HandS.Gcd
import HandS.Defaults
import PySem.Challenge.RW_waitworks_k05_rates_and_counts
set_option Elab.async false
set_option maxRecDepth 100000
set_option autoImplicit false
namespace My
open PySem PySem.Spec PyProof.Rows L2
/-! ## general: either of two readings; defs and methods as one fact each; heaps -/
section
variable {X : Cx}
/-- either of two readings of an expression -/
theorem pe_alt {e : Expr} {t1 t2 : TE} (h1 : PE X e t1) (h2 : PE X e t2) : PE X e (fun σ H Q => t1 σ H Q ∨ t2 σ H Q) :=
  ⟨fun pins s σ H Q I h => h.elim (h1.run pins s σ H Q I) (h2.run pins s σ H Q I)⟩
theorem pi_alt {g e : Expr} {t1 t2 : TI} (h1 : PI X g e t1) (h2 : PI X g e t2) : PI X g e (fun σ H R => t1 σ H R ∨ t2 σ H R) :=
  ⟨fun pins s σ H R I h => h.elim (h1.run pins s σ H R I) (h2.run pins s σ H R I)⟩
theorem pss_alt {ss : List Stmt} {t1 t2 : TS} (h1 : PSs X ss t1) (h2 : PSs X ss t2) : PSs X ss (fun D σ H => t1 D σ H ∨ t2 D σ H) :=
  ⟨fun pins s σ H D I h => h.elim (h1.run pins s σ H D I) (h2.run pins s σ H D I)⟩
end
section
variable {P : Program} {w : World} {K : PySem.W.Frag} {mg : Str → Option Value} {base : Heap}
/-- the module's name x is a def that keeps a promise -/
structure Own (P : Program) (w : World) (K : PySem.W.Frag) (mg : Str → Option Value) (base : Heap) (x : Str) (k : Nat) (ps : List Str) (sp : Sp) : Prop where
  ex : ∃ f fd, FnOk P w K mg base CX0 k f fd ps sp ∧ mg x = some (.ref f) ∧ PySem.W.keepIn K (.ref f) = true ∧ Binds K fd ps []
/-- the module's name x is the def st -/
structure Df (K : PySem.W.Frag) (mg : Str → Option Value) (x : Str) (st : Stmt) (ps : List Str) : Prop where
  ex : ∃ f fd, Fun K x x st f fd ∧ mg x = some (.ref f) ∧ Binds K fd ps []
theorem Df.own {x : Str} {st : Stmt} {ps N : List Str} {k : Nat} {sp : Sp} (D : Df K mg x st ps) (S : FnScope N ps (defScope st)) (len : ∀ vs H Q E, sp vs H Q E → vs.length = ps.length)
    (hbody : ∀ (f : Addr) (cdv : Value) (A : Around) (outer : List Env) (s : Shared) (H : Hp) (vs : List V) (Q : VK) (E : XK), Room k (A.deeper (envOfC x (defScope st) s.heap.objs.size f cdv)) → sp vs H Q E →
      ∃ t, PSs (cxOf CX0 P w K mg base N x (defScope st) f cdv A outer s H E).nox (defBody st) t ∧ t { nx := fun _ H' => Q .non H', rt := Q } (start N vs) H) : Own P w K mg base x (k + 1) ps sp := by
  obtain ⟨f, fd, F, m, b⟩ := D.ex
  exact ⟨f, fd, F.ok S len (hbody f), m, F.kp, b⟩
theorem Own.imp {x : Str} {k j : Nat} {ps : List Str} {sp sp' : Sp} (O : Own P w K mg base x k ps sp) (hk : k ≤ j) (h : ∀ vs H Q E, sp' vs H Q E → sp vs H Q E) : Own P w K mg base x j ps sp' := by
  obtain ⟨f, fd, F, r⟩ := O.ex
  exact ⟨f, fd, (F.mono hk).imp h, r⟩
/-- a method of the class at C -/
structure Mth (P : Program) (w : World) (K : PySem.W.Frag) (mg : Str → Option Value) (base : Heap) (C : Addr) (m : Str) (k : Nat) (ps : List Str) (sp : Sp) : Prop where
  ex : ∃ f fd, FnOk P w K mg base CX0 k f fd ps sp ∧ Meth K C m f ∧ Binds K fd ps []
structure Prp (P : Program) (w : World) (K : PySem.W.Frag) (mg : Str → Option Value) (base : Heap) (C : Addr) (m : Str) (k : Nat) (ps : List Str) (sp : Sp) : Prop where
  ex : ∃ p f fd, FnOk P w K mg base CX0 k f fd ps sp ∧ PropOf K C m p f ∧ Binds K fd ps []
/-- the module's name x is a class whose __init__ keeps a promise -/
structure Mks (P : Program) (w : World) (K : PySem.W.Frag) (mg : Str → Option Value) (base : Heap) (x : Str) (C : Addr) (k : Nat) (ps : List Str) (sp : Sp) : Prop where
  ex : ∃ f fd, FnOk P w K mg base CX0 k f fd ps sp ∧ mg x = some (.ref C) ∧ Mk K C f ∧ Binds K fd ps []
end
section
variable {X : Cx} {x m : Str} {p pos apos : Pos} {e o : Expr} {es : List Expr} {t : TA} {ta : TE} {k : Nat} {ps : List Str} {sp : Sp} {C : Addr}
theorem pe_own (O : Own X.prog X.w X.K X.mg X.base x k ps sp) (hr : Room k X.A) (ha : PA X (e :: es) t) (hg : Gl X x := by exact rfl) (hdb : (x == ("__debug__" : Str)) = false := by decide)
    (he : starEach (e :: es) X.env = (false, eval e X.env) :: starEach es X.env := by rfl) (hpl : (backTo pos (starEach es X.env)).any (·.1) = false := by rfl) : PE X (.Call (.Name x p) (e :: es) [] pos) (tCall sp [] E0 t) := by
  obtain ⟨f, fd, G, hm, hk, hb⟩ := O.ex
  exact pe_call G hr hg hm hk hb .nil pass0 ha hdb he hpl
theorem pe_own0 (O : Own X.prog X.w X.K X.mg X.base x k ps sp) (hr : Room k X.A) (hg : Gl X x := by exact rfl) (hdb : (x == ("__debug__" : Str)) = false := by decide) : PE X (.Call (.Name x p) [] [] pos) (tCall sp [] E0 tNil) := by
  obtain ⟨f, fd, G, hm, hk, hb⟩ := O.ex
  exact pe_call0 G hr hg hm hk hb .nil pass0 hdb
theorem pe_mks (O : Mks X.prog X.w X.K X.mg X.base x C k ps sp) (hr : Room (k + 1) X.A) (ha : PA X (e :: es) t) (hg : Gl X x := by exact rfl) (hdb : (x == ("__debug__" : Str)) = false := by decide)
    (he : starEach (e :: es) X.env = (false, eval e X.env) :: starEach es X.env := by rfl) (hpl : (backTo pos (starEach es X.env)).any (·.1) = false := by rfl) : PE X (.Call (.Name x p) (e :: es) [] pos) (tMake C sp [] E0 t) := by
  obtain ⟨f, fd, G, hm, M, hb⟩ := O.ex
  exact pe_make M G hr hg hm hb .nil pass0 ha hdb he hpl
theorem pe_mth (c : Cls X.K C) (O : Mth X.prog X.w X.K X.mg X.base C m k ps sp) (hr : Room k X.A) (he : PE X o ta) (ha : PA X (e :: es) t)
    (hst : starEach (e :: es) X.env = (false, eval e X.env) :: starEach es X.env := by rfl) (hpl : (backTo pos (starEach es X.env)).any (·.1) = false := by rfl)
    {pl : Sem Bool} (ht : eval (.Call (.Attribute o m apos) (e :: es) [] pos) X.env = (do
      let ov ← eval o X.env
      standAt apos.atName
      let (f, first) ← holding [ov] (getMethod ov m pl)
      callWith pos f first (backTo pos (starEach (e :: es) X.env)) (backToKw pos (keywordEach [] X.env))) := by rfl) : PE X (.Call (.Attribute o m apos) (e :: es) [] pos) (tMeth C m sp [] E0 ta t) := by
  obtain ⟨f, fd, G, M, hb⟩ := O.ex
  exact pe_meth he c M G hr hb .nil pass0 ha hst hpl ht
theorem pe_prp (c : Cls X.K C) (O : Prp X.prog X.w X.K X.mg X.base C m k ps sp) (hr : Room (k + 1) X.A) (he : PE X o ta) (hab : attributeBase o m X.env (eval o X.env) = eval o X.env := by rfl) : PE X (.Attribute o m pos) (tProp C sp [] E0 ta) := by
  obtain ⟨q, f, fd, G, M, hb⟩ := O.ex
  exact pe_prop he c M G hr hb .nil pass0 hab
end
/-! ## heaps -/
theorem same_upd {H : Hp} {p : Addr} {o : HO} (h : H p = none) : Same H (upd H p o) := fun b x e => by
  rw [upd_ne (ne_of_none e h)]
  exact e
theorem _root_.L2.Same.seqT {K : PySem.W.Frag} {H H' : Hp} {a : Addr} {xs : List V} (e : Same H H') (h : SqT K H a xs) : SqT K H' a xs := by
  rcases h with (h | ⟨o, h⟩) | h
  · exact .inl (.inl (e _ _ h))
  · exact .inl (.inr ⟨o, e _ _ h⟩)
  · exact .inr h
theorem new_lst {Q : VK} {xs : List V} {H : Hp} (hl : xs.length ≤ sizeLine) (h : ∀ p H', Same H H' → H p = none → H' p = some (.lst xs) → Q (.ref p) H') : xs.length ≤ sizeLine ∧ ∀ p, H p = none → Q (.ref p) (upd H p (.lst xs)) :=
  ⟨hl, fun p hp => h p _ (same_upd hp) hp upd_same⟩
theorem new_tup {Q : VK} {xs : List V} {H : Hp} (hl : xs.length ≤ sizeLine) (h : ∀ p H', Same H H' → H p = none → H' p = some (.tup xs) → Q (.ref p) H') : xs.length ≤ sizeLine ∧ ∀ p, H p = none → Q (.ref p) (upd H p (.tup xs)) :=
  ⟨hl, fun p hp => h p _ (same_upd hp) hp upd_same⟩
theorem new_o {Q : VK} {o : HO} {H : Hp} (h : ∀ p H', Same H H' → H p = none → H' p = some o → Q (.ref p) H') : ∀ p, H p = none → Q (.ref p) (upd H p o) :=
  fun p hp => h p _ (same_upd hp) hp upd_same
end My
namespace My
open PySem PySem.Spec PyProof.Rows L2
/-! ## readings in one step -/
theorem rd_isi {K : PySem.W.Frag} {H : Hp} {Q : VK} {x : V} {m : String} (n : String) (b : Bool) (ty : TyX K H x (.type n)) (h : kitB n m = some b) (q : Q (.bl b) H) : rIsi K [x, .ty m] H Q :=
  ⟨_, _, _, _, _, rfl, .ty _, ty, kit_ty h, q⟩
theorem rd_isi2 {K : PySem.W.Frag} {H : Hp} {Q : VK} {x : V} {m m' : String} {tp : Addr} (n : String) (b b' : Bool) (ht : H tp = some (.tup [.ty m, .ty m'])) (ty : TyX K H x (.type n)) (h : kitB n m = some b) (h' : kitB n m' = some b') (q : Q (.bl (b || b')) H) : rIsiT K [x, .ref tp] H Q :=
  ⟨_, _, _, _, _, _, rfl, ht, .cons (.ty _) (.cons (.ty _) .nil), ty, kitAny_cons (kit_ty h) (fun e => kitAny_cons (r := b || b') (kit_ty h') (fun e' => by rw [e, e']; rfl) (fun e' => by rw [e, e']; rfl)) (fun e => by rw [e]; rfl), q⟩
end My
namespace My
open PySem PySem.Spec PyProof.Rows L2
/-! ## a list or a tuple -/
def SqS (K : PySem.W.Frag) (H : Hp) (a : Addr) (xs : List V) : Prop := SqL K H a xs ∨ SqT K H a xs
theorem _root_.L2.Same.sqs {K : PySem.W.Frag} {H H' : Hp} {a : Addr} {xs : List V} (e : Same H H') (h : SqS K H a xs) : SqS K H' a xs := h.imp e.seq e.seqT
/-- how a walk over such a thing goes, as long as what is tracked in H0 stands -/
structure SeqIt (H0 : Hp) (xs : List V) (J : It) : Prop where
  go : ∀ i H, Same H0 H → i < xs.length → J.go i H
  yld : ∀ i H x H', Same H0 H → J.yld i H x H' → H' = H ∧ xs[i]? = some x
  stop : ∀ i H, Same H0 H → xs.length ≤ i → J.stop i H
theorem seqIt_l {K : PySem.W.Frag} {H0 : Hp} {a : Addr} {xs : List V} (h : SqL K H0 a xs) : SeqIt H0 xs (Itl K a) :=
  ⟨fun i H s l => ⟨xs, xs[i], s.seq h, by simp [l]⟩, fun i H x H' s y => ⟨y.1, y.2 xs (s.seq h)⟩, fun i H s l => ⟨xs, s.seq h, l⟩⟩
theorem seqIt_t {K : PySem.W.Frag} {H0 : Hp} {a : Addr} {xs : List V} (h : SqT K H0 a xs) : SeqIt H0 xs (Itt K a) :=
  ⟨fun i H s l => ⟨xs, xs[i], s.seqT h, by simp [l]⟩, fun i H x H' s y => ⟨y.1, y.2 xs (s.seqT h)⟩, fun i H s l => ⟨xs, s.seqT h, l⟩⟩
theorem seq_pi {K : PySem.W.Frag} {a : Addr} {xs : List V} {i : Nat} {σ : L2.St} {H : Hp} {R : It → Hp → Prop} (h : SqS K H a xs) (hv : σ[i]? = some (some (.ref a))) (hR : ∀ J, SeqIt H xs J → R J H) : iList K (tVar i) σ H R ∨ iTup K (tVar i) σ H R :=
  h.elim (fun h => Or.inl ⟨_, hv, a, rfl, ⟨_, h⟩, hR _ (seqIt_l h)⟩) fun h => Or.inr ⟨_, hv, a, rfl, ⟨_, h⟩, hR _ (seqIt_t h)⟩
theorem for_seq {J : It} {H0 : Hp} {xs : List V} {g : TG} {tb : TS} {D : Ends} {σ : L2.St} {H : Hp} (hJ : SeqIt H0 xs J) (Pv : Nat → L2.St → Hp → Prop) (h0 : Pv 0 σ H) (hl : ∀ i σ H, Pv i σ H → Same H0 H)
    (hs : ∀ i x σ H, xs[i]? = some x → Pv i σ H → g x σ H fun σ2 H2 => tb { D with nx := Pv (i + 1), ct := Pv (i + 1), bk := D.nx } σ2 H2) (hd : ∀ σ H, Pv xs.length σ H → D.nx σ H) :
    ∃ W : Nat → Nat → L2.St → Hp → Prop, (∃ m, W 0 m σ H) ∧ ∀ i m σ H, W i m σ H →
      (J.stop i H ∧ D.nx σ H) ∨ (J.go i H ∧ ∃ N : L2.St → Hp → Prop, (∀ σ' H', N σ' H' → ∃ m', m' < m ∧ W (i + 1) m' σ' H') ∧ ∀ x H', J.yld i H x H' → g x σ H' fun σ2 H2 => tb { D with nx := N, ct := N, bk := D.nx } σ2 H2) := by
  refine ⟨fun i m σ H => m + i = xs.length ∧ Pv i σ H, ⟨xs.length, by omega, h0⟩, fun i m σ H q => ?_⟩
  obtain ⟨em, p⟩ := q
  have s := hl i σ H p
  by_cases hlt : i < xs.length
  · refine Or.inr ⟨hJ.go i H s hlt, Pv (i + 1), fun σ' H' p' => ⟨m - 1, by omega, by omega, p'⟩, fun x H' y => ?_⟩
    obtain ⟨rfl, e⟩ := hJ.yld i H x H' s y
    exact hs i x _ _ e p
  · have e : i = xs.length := by omega
    subst e
    exact Or.inl ⟨hJ.stop _ H s (Nat.le_refl _), hd _ _ p⟩
theorem lc_seq {J : It} {H0 : Hp} {xs : List V} {g : TG} {tt : TT} {te : TE} {vs : List Nat} {σ : L2.St} {H1 : Hp} {D : Addr} {Qd : Hp → Prop} (hJ : SeqIt H0 xs J) (Pv : Nat → Hp → Prop) (h0 : Pv 0 (upd H1 D (.lst []))) (hl : ∀ i H, Pv i H → Same H0 H)
    (hs : ∀ i x H, xs[i]? = some x → Pv i H → g x (wipe σ vs) H fun σ2 H2 => wipe σ2 vs = wipe σ vs ∧ tt σ2 H2 fun b H3 =>
      if b = true then te σ2 H3 fun y H4 => ∃ acc, H4 D = some (.lst acc) ∧ acc.length < sizeLine ∧ Pv (i + 1) (upd H4 D (.lst (acc ++ [y]))) else Pv (i + 1) H3) (hd : ∀ H, Pv xs.length H → Qd H) :
    ∃ W : Nat → Nat → Hp → Prop, (∃ m, W 0 m (upd H1 D (.lst []))) ∧ ∀ i m H, W i m H →
      (J.stop i H ∧ Qd H) ∨ (J.go i H ∧ ∃ Nx : Hp → Prop, (∀ H', Nx H' → ∃ m', m' < m ∧ W (i + 1) m' H') ∧ ∀ x H', J.yld i H x H' → g x (wipe σ vs) H' fun σ2 H2 => wipe σ2 vs = wipe σ vs ∧ tt σ2 H2 fun b H3 =>
        if b = true then te σ2 H3 fun y H4 => ∃ acc, H4 D = some (.lst acc) ∧ acc.length < sizeLine ∧ Nx (upd H4 D (.lst (acc ++ [y]))) else Nx H3) := by
  refine ⟨fun i m H => m + i = xs.length ∧ Pv i H, ⟨xs.length, by omega, h0⟩, fun i m H q => ?_⟩
  obtain ⟨em, p⟩ := q
  have s := hl i H p
  by_cases hlt : i < xs.length
  · refine Or.inr ⟨hJ.go i H s hlt, Pv (i + 1), fun H' p' => ⟨m - 1, by omega, by omega, p'⟩, fun x H' y => ?_⟩
    obtain ⟨rfl, e⟩ := hJ.yld i H x H' s y
    exact hs i x _ e p
  · have e : i = xs.length := by omega
    subst e
    exact Or.inl ⟨hJ.stop _ H s (Nat.le_refl _), hd _ p⟩
theorem new_facts {H H1 : Hp} {p : Addr} {o : HO} (hp : H p = none) (hq : upd H p o = H1) : Same H H1 ∧ H1 p = some o := by
  subst hq
  exact ⟨same_upd hp, upd_same⟩
theorem _root_.L2.Same.upd1 {H0 H : Hp} {p : Addr} {o : HO} (s : Same H0 H) (hp : H0 p = none) : Same H0 (upd H p o) := fun b x e => by
  rw [upd_ne (ne_of_none e hp)]
  exact s _ _ e
end My

namespace My
open PySem PySem.Spec PyProof.Rows L2
local macro_rules | `(tactic| walk_at "side") => `(tactic| first | (dsimp only; omega) | exact ⟨by omega, by omega⟩ | exact Or.inl ⟨by omega, by omega⟩ | exact Or.inr ⟨by omega, by omega⟩ | decide)
local macro_rules | `(tactic| walk_at "sq") => `(tactic| first | assumption | exact SqL.of (by assumption) | exact SqT.of (by assumption) | (refine L2.Same.seq (by assumption) ?_; walk_at "sq") | (refine L2.Same.seqT (by assumption) ?_; walk_at "sq") | exact Or.inl (by walk_at "sq") | exact Or.inr (by walk_at "sq"))
local macro_rules | `(tactic| walk_at "1") => `(tactic| first
  | refine ⟨_, rfl, iteT ?_⟩
  | refine ⟨_, rfl, iteF ?_⟩
  | refine ⟨_, rfl, ?_⟩
  | refine ⟨_, _, rfl, rfl, (by walk_at "side"), ?_⟩
  | refine ⟨_, _, rfl, rfl, ?_⟩
  | refine ⟨_, _, _, _, true, rfl, .ty _, .base (.int _), kit_ty (a := "int") (by decide +kernel), ?_⟩
  | refine ⟨_, _, _, _, false, rfl, .ty _, .base (.int _), kit_ty (a := "int") (by decide +kernel), ?_⟩
  | refine ⟨_, _, rfl, (by walk_at "sq"), ?_⟩
  | refine ⟨rfl, ?_⟩
  | refine iteT ?_
  | refine iteF ?_
  | refine Or.inl ⟨_, rfl, ?_⟩)
local macro_rules | `(tactic| walk_at "s") => `(tactic| repeat walk_at "1")
local macro_rules | `(tactic| walk_at "size") => `(tactic| first | exact Nat.le_of_ble_eq_true rfl | (simp only [List.length_map, List.length_append, List.length_cons, List.length_nil]; omega))
local macro_rules | `(tactic| walk_at "new") => `(tactic| (first | refine ⟨(by walk_at "size"), fun p hp => ?_⟩ | refine fun p hp => ?_); (generalize hq : upd _ p _ = H1); (obtain ⟨s, e⟩ := new_facts hp hq); clear hq)
def topS (i : Nat) : Stmt := PySem.Challenge.pw_waitworks_k05_rates_and_counts.main.body.getD i (.Pass ⟨0, 0, 0, 0⟩)
/-- what of the built-in names is still built-in -/
structure Txt (mg : Str → Option Value) : Prop where
  int : mg "int" = none
  len : mg "len" = none
  abs : mg "abs" = none
  bool : mg "bool" = none
  list : mg "list" = none
  tuple : mg "tuple" = none
  range : mg "range" = none
  isinstance : mg "isinstance" = none
  divmod : mg "divmod" = none
  max : mg "max" = none
  min : mg "min" = none
  repr : mg "repr" = none
/-- a time or nothing as a value -/
def ov : Option Int → V
  | none => .non
  | some i => .int i
theorem ov_non (t : Option Int) : decide (ov t = .non) = t.isNone := by cases t <;> rfl
section
variable {P : Program} {w : World} {K : PySem.W.Frag} {mg : Str → Option Value} {base : Heap}
/-! ### kinds -/
abbrev s_is_integer : Stmt := topS 7
theorem sc_is_integer : FnScope ["value"] ["value"] (defScope s_is_integer) := ⟨rfl, rfl, rfl, by decide +kernel, rfl, by decide +kernel, by decide +kernel⟩
def spIsInt : Sp := fun vs H Q _ => ∃ i : Int, vs = [.int i] ∧ Q (.bl true) H
theorem ok_is_integer (D : Df K mg "is_integer" s_is_integer ["value"]) (T : Txt mg) : Own P w K mg base "is_integer" 1 ["value"] spIsInt := by
  refine D.own sc_is_integer (fun vs H Q E h => ?_) (fun f cdv A outer s H vs Q E hr h => ?_)
  · obtain ⟨i, rfl, _⟩ := h
    rfl
  · obtain ⟨i, rfl, k⟩ := h
    refine ⟨_, (pss_one (ps_ret (pe_and (pe_callB call_isi (by rfl) T.isinstance (by decide +kernel) (pa_cons (pv 0) (pa_cons (pe_bltn (v := .ty "int") (by rfl) T.int (by decide +kernel) rfl) pa_nil))) (pe_one (pe_not (pe_callB call_isi (by rfl) T.isinstance (by decide +kernel) (pa_cons (pv 0) (pa_cons (pe_bltn (v := .ty "bool") (by rfl) T.bool (by decide +kernel) rfl) pa_nil)))))))), ?_⟩
    walk_at "s"
    exact k
abbrev s_is_number : Stmt := topS 8
theorem sc_is_number : FnScope ["value"] ["value"] (defScope s_is_number) := ⟨rfl, rfl, rfl, by decide +kernel, rfl, by decide +kernel, by decide +kernel⟩
def spIsNum : Sp := fun vs H Q _ => ∃ i : Int, vs = [.int i] ∧ Q (.bl (decide (0 ≤ i))) H
theorem ok_is_number (D : Df K mg "is_number" s_is_number ["value"]) (o_is_integer : Own P w K mg base "is_integer" 1 ["value"] spIsInt) : Own P w K mg base "is_number" 2 ["value"] spIsNum := by
  refine D.own sc_is_number (fun vs H Q E h => ?_) (fun f cdv A outer s H vs Q E hr h => ?_)
  · obtain ⟨i, rfl, _⟩ := h
    rfl
  · obtain ⟨i, rfl, k⟩ := h
    refine ⟨_, (pss_one (ps_ret (pe_and (pe_own o_is_integer (hr.mono (by decide)) (pa_cons (pv 0) pa_nil)) (pe_one (pe_cmpR op_ge (pv 0) pe_int (nomark _)))))), ?_⟩
    walk_at "s"
    exact k
abbrev s_is_sequence : Stmt := topS 9
theorem sc_is_sequence : FnScope ["value"] ["value"] (defScope s_is_sequence) := ⟨rfl, rfl, rfl, by decide +kernel, rfl, by decide +kernel, by decide +kernel⟩
/-- what is behind a call that makes things: all that was tracked stands -/
def spIsSeq : Sp := fun vs H Q _ => ∃ (a : Addr) (xs : List V), vs = [.ref a] ∧ (H a = some (.lst xs) ∨ H a = some (.tup xs)) ∧ ∀ H', Same H H' → Q (.bl true) H'
theorem ok_is_sequence (D : Df K mg "is_sequence" s_is_sequence ["value"]) (T : Txt mg) : Own P w K mg base "is_sequence" 1 ["value"] spIsSeq := by
  refine D.own sc_is_sequence (fun vs H Q E h => ?_) (fun f cdv A outer s H vs Q E hr h => ?_)
  · obtain ⟨a, xs, rfl, _⟩ := h
    rfl
  · obtain ⟨a, xs, rfl, hS, k⟩ := h
    refine ⟨_, (pss_one (ps_ret (pe_callB call_isiT (by rfl) T.isinstance (by decide +kernel) (pa_cons (pv 0) (pa_cons (pe_tup (pa_cons (pe_bltn (v := .ty "list") (by rfl) T.list (by decide +kernel) rfl) (pa_cons (pe_bltn (v := .ty "tuple") (by rfl) T.tuple (by decide +kernel) rfl) pa_nil))) pa_nil))))), ?_⟩
    walk_at "s"
    walk_at "new"
    rename_i t nt H1 s1 e1
    rcases hS with hS | hS
    · exact ⟨_, _, _, _, _, _, rfl, e1, .cons (.ty _) (.cons (.ty _) .nil), .base (.lst (s1 _ _ hS)), kitAny_cons (kit_ty (a := "list") (b := "list") (r := true) (by decide +kernel)) (fun z => nomatch z) (fun _ => rfl), k _ s1⟩
    · exact ⟨_, _, _, _, _, _, rfl, e1, .cons (.ty _) (.cons (.ty _) .nil), .base (.tup (s1 _ _ hS)), kitAny_cons (kit_ty (a := "tuple") (b := "list") (r := false) (by decide +kernel)) (fun _ => kitAny_cons (kit_ty (a := "tuple") (b := "tuple") (r := true) (by decide +kernel)) (fun z => nomatch z) (fun _ => rfl)) (fun z => nomatch z), k _ s1⟩
/-! ### rows -/
def risesFrom : Option Int → List (Option Int) → Bool
  | _, [] => true
  | none, t :: r => risesFrom t r
  | some _, none :: _ => false
  | some l, some x :: r => if x < l then false else risesFrom (some x) r
abbrev s_rises : Stmt := topS 15
theorem sc_rises : FnScope ["things", "last", "thing"] ["things"] (defScope s_rises) := ⟨rfl, rfl, rfl, by decide +kernel, rfl, by decide +kernel, by decide +kernel⟩
def spRises (K : PySem.W.Frag) : Sp := fun vs H Q _ => ∃ (a : Addr) (xs : List (Option Int)), vs = [.ref a] ∧ SqS K H a (xs.map ov) ∧ Q (.bl (risesFrom none xs)) H
theorem ok_rises (D : Df K mg "_rises" s_rises ["things"]) (o_is_integer : Own P w K mg base "is_integer" 1 ["value"] spIsInt) : Own P w K mg base "_rises" 2 ["things"] (spRises K) := by
  refine D.own sc_rises (fun vs H Q E h => ?_) (fun f cdv A outer s H vs Q E hr h => ?_)
  · obtain ⟨a, xs, rfl, _⟩ := h
    rfl
  · obtain ⟨a, xs, rfl, hS, k⟩ := h
    refine ⟨_, (pss_cons (ps_set (i := 1) sc_rises.nd rfl (Or.inl rfl) pe_non)
  (pss_cons (ps_for PassesOwn.never rfl (pi_alt (pi_list (pv 0)) (pi_tup (pv 0))) (pg_name (i := 2) sc_rises.nd rfl (Or.inl rfl))
    (pss_one (ps_if (pt_cmpR op_notN (pv 2) pe_non (nomark _))
        (pss_cons (ps_if (PW.pt (pw_or (pt_not (pt_val (pe_own o_is_integer (hr.mono (by decide)) (pa_cons (pv 2) pa_nil)))) (pw_or1 (PW.pt (pw_and (pt_cmpR op_notN (pv 1) pe_non (nomark _)) (pw_and1 (pt_cmpR op_lt (pv 2) (pv 1) (nomark _))))))))
            (pss_one (ps_ret pe_bl))
            pss_nil)
          (pss_one (ps_set (i := 1) sc_rises.nd rfl (Or.inl rfl) (pv 2))))
        (pss_one (ps_if (pt_cmpR op_notN (pv 1) pe_non (nomark _))
            (pss_one (ps_ret pe_bl))
            pss_nil)))))
  (pss_one (ps_ret pe_bl)))), ?_⟩
    refine seq_pi hS rfl fun J hJ => for_seq hJ (fun i σ H' => ∃ (l : Option Int) (y : Option V), σ = [some (.ref a), some (ov l), y] ∧ H' = H ∧ risesFrom l (xs.drop i) = risesFrom none xs)
      ⟨none, none, rfl, rfl, rfl⟩ (fun i σ H' ⟨_, _, _, e, _⟩ => e ▸ Same.refl _) ?_ ?_
    · rintro i x σ H' hi ⟨l, y, rfl, rfl, e⟩
      obtain ⟨t, ht, rfl⟩ : ∃ t, xs[i]? = some t ∧ ov t = x := by simpa using hi
      have hd : xs.drop i = t :: xs.drop (i + 1) := by
        obtain ⟨q, rfl⟩ := List.getElem?_eq_some_iff.mp ht
        exact List.drop_eq_getElem_cons q
      rw [hd] at e
      cases t with
      | none =>
        walk_at "s"
        cases l with
        | none =>
          walk_at "s"
          exact e
        | some l =>
          walk_at "s"
          rw [← e] at k
          exact k
      | some t =>
        walk_at "s"
        cases l with
        | none =>
          walk_at "s"
          exact e
        | some l =>
          walk_at "s"
          refine ite2 (fun c => ?_) (fun c => ?_)
          · have c' : t < l := by simpa using c
            rw [← e, show risesFrom (some l) (some t :: xs.drop (i + 1)) = false from if_pos c'] at k
            exact k
          · have c' : ¬ t < l := by simpa using c
            walk_at "s"
            rw [← e]
            exact (if_neg c').symm
    · rintro σ H' ⟨l, y, rfl, rfl, e⟩
      have ed : xs.drop (xs.map ov).length = [] := List.drop_eq_nil_of_le (by simp)
      rw [ed] at e
      have et : risesFrom l [] = true := by cases l <;> rfl
      rw [← e, et] at k
      exact k
end
end My

namespace My
open PySem PySem.Spec PyProof.Rows L2
local macro_rules | `(tactic| walk_at "side") => `(tactic| first | (dsimp only; omega) | exact ⟨by omega, by omega⟩ | exact Or.inl ⟨by omega, by omega⟩ | exact Or.inr ⟨by omega, by omega⟩ | decide)
local macro_rules | `(tactic| walk_at "sq") => `(tactic| first | assumption | exact SqL.of (by assumption) | exact SqT.of (by assumption) | (refine L2.Same.seq (by assumption) ?_; walk_at "sq") | (refine L2.Same.seqT (by assumption) ?_; walk_at "sq") | exact Or.inl (by walk_at "sq") | exact Or.inr (by walk_at "sq"))
local macro_rules | `(tactic| walk_at "1") => `(tactic| first
  | refine ⟨_, rfl, iteT ?_⟩
  | refine ⟨_, rfl, iteF ?_⟩
  | refine ⟨_, rfl, ?_⟩
  | refine ⟨_, _, rfl, rfl, (by walk_at "side"), ?_⟩
  | refine ⟨_, _, rfl, rfl, ?_⟩
  | refine ⟨_, _, _, _, true, rfl, .ty _, .base (.int _), kit_ty (a := "int") (by decide +kernel), ?_⟩
  | refine ⟨_, _, _, _, false, rfl, .ty _, .base (.int _), kit_ty (a := "int") (by decide +kernel), ?_⟩
  | refine ⟨_, _, rfl, (by walk_at "sq"), ?_⟩
  | refine ⟨_, _, _, _, rfl, rfl, (by walk_at "sq"), (by first | rfl | assumption), ?_⟩
  | refine Or.inl ⟨_, _, _, _, rfl, rfl, (by walk_at "sq"), (by first | rfl | assumption), ?_⟩
  | refine Or.inr (Or.inl ⟨_, _, _, _, rfl, rfl, (by walk_at "sq"), (by first | rfl | assumption), ?_⟩)
  | refine ⟨rfl, ?_⟩
  | refine iteT ?_
  | refine iteF ?_
  | refine Or.inl ⟨_, rfl, ?_⟩)
local macro_rules | `(tactic| walk_at "s") => `(tactic| repeat walk_at "1")
local macro_rules | `(tactic| walk_at "size") => `(tactic| first | exact Nat.le_of_ble_eq_true rfl | (simp only [List.length_map, List.length_append, List.length_cons, List.length_nil]; omega))
local macro_rules | `(tactic| walk_at "new") => `(tactic| (first | refine ⟨(by walk_at "size"), fun p hp => ?_⟩ | refine fun p hp => ?_); (generalize hq : upd _ p _ = H1); (obtain ⟨s, e⟩ := new_facts hp hq); clear hq)

def SqH (H : Hp) (a : Addr) (xs : List V) : Prop := H a = some (.lst xs) ∨ H a = some (.tup xs)
theorem SqH.sqs {K : PySem.W.Frag} {H : Hp} {a : Addr} {xs : List V} (h : SqH H a xs) : SqS K H a xs := h.imp SqL.of SqT.of
theorem _root_.L2.Same.sqh {H H' : Hp} {a : Addr} {xs : List V} (e : Same H H') (h : SqH H a xs) : SqH H' a xs := h.imp (e _ _) (e _ _)
/-- a row's arguments as they should be -/
structure OkRow (f a : List (Option Int)) (m : Int) : Prop where
  rf : risesFrom none f = true
  ra : risesFrom none a = true
  ne : a ≠ []
  ct : (∃ lo hi : Int, a.head? = some (some lo) ∧ a.getLast? = some (some hi) ∧ (∀ e, f.getLast? = some (some e) → e ≤ lo) ∧ 0 ≤ m ∧ hi - lo ≤ m) ∨
    (a.head? = some none ∧ a.getLast? = some none ∧ (f.getLast? = none ∨ f.getLast? = some none) ∧ m = 0)
theorem atI_neg1 {α : Type} {xs : List α} {v : α} (h : xs.getLast? = some v) : atI xs (-1) = some v := by
  obtain ⟨ys, rfl⟩ := List.getLast?_eq_some_iff.mp h
  exact atI_last ys v
theorem atI_head {α : Type} {xs : List α} {v : α} (h : xs.head? = some v) : atI xs 0 = some v := by
  cases xs with
  | nil => cases h
  | cons x r =>
    cases h
    exact atI_nat (j := 0) rfl
theorem last_map (xs : List (Option Int)) : (xs.map ov).getLast? = xs.getLast?.map ov := by simp
theorem head_map (xs : List (Option Int)) : (xs.map ov).head? = xs.head?.map ov := by simp
section
variable {P : Program} {w : World} {K : PySem.W.Frag} {mg : Str → Option Value} {base : Heap}
abbrev s_wrong_argument : Stmt := topS 16
theorem sc_wrong_argument : FnScope ["first", "again", "more", "end"] ["first", "again", "more"] (defScope s_wrong_argument) := ⟨rfl, rfl, rfl, by decide +kernel, rfl, by decide +kernel, by decide +kernel⟩
def spWrong : Sp := fun vs H Q _ => ∃ (aF aA : Addr) (f a : List (Option Int)) (m : Int), vs = [.ref aF, .ref aA, .int m] ∧ SqH H aF (f.map ov) ∧ SqH H aA (a.map ov) ∧ OkRow f a m ∧ ∀ H', Same H H' → Q .non H'
theorem ok_wrong (D : Df K mg "_wrong_argument" s_wrong_argument ["first", "again", "more"]) (T : Txt mg) (o_is_number : Own P w K mg base "is_number" 2 ["value"] spIsNum) (o_is_sequence : Own P w K mg base "is_sequence" 1 ["value"] spIsSeq)
    (o_rises : Own P w K mg base "_rises" 2 ["things"] (spRises K)) : Own P w K mg base "_wrong_argument" 3 ["first", "again", "more"] spWrong := by
  refine D.own sc_wrong_argument (fun vs H Q E h => ?_) (fun fa cdv A outer s H vs Q E hr h => ?_)
  · obtain ⟨_, _, _, _, _, rfl, _⟩ := h
    rfl
  · obtain ⟨aF, aA, f, a, m, rfl, hF, hA, ok, k⟩ := h
    refine ⟨_, (pss_cons (ps_if (PW.pt (pw_or (pt_not (pt_val (pe_own o_is_sequence (hr.mono (by decide)) (pa_cons (pv 0) pa_nil)))) (pw_or1 (pt_not (pt_val (pe_own o_rises (hr.mono (by decide)) (pa_cons (pv 0) pa_nil)))))))
    (pss_one (ps_ret pe_str))
    pss_nil)
  (pss_cons (ps_if (PW.pt (pw_or (pt_not (pt_val (pe_own o_is_sequence (hr.mono (by decide)) (pa_cons (pv 1) pa_nil)))) (pw_or (pt_cmpR op_eq (pe_callB call_len_seq (by rfl) T.len PySem.boot_len (pa_cons (pv 1) pa_nil)) pe_int (nomark _)) (pw_or1 (pt_not (pt_val (pe_own o_rises (hr.mono (by decide)) (pa_cons (pv 1) pa_nil))))))))
    (pss_one (ps_ret pe_str))
    pss_nil)
  (C8.pss_cut (ps_set (i := 3) sc_wrong_argument.nd rfl (Or.inl rfl) (pe_ifExp (pt_cmpR op_gt (pe_callB call_len_seq (by rfl) T.len PySem.boot_len (pa_cons (pv 0) pa_nil)) pe_int (nomark _)) (pe_ix ix_seq (pv 0) (pe_un un_neg pe_int) (fun _ _ => rfl)) pe_non))
  (pss_cons (ps_if (pt_cmpR op_isN (pe_ix ix_seq (pv 1) pe_int (fun _ _ => rfl)) pe_non (nomark _))
    (pss_cons (ps_if (PW.pt (pw_or (pt_cmpR op_notN (pe_ix ix_seq (pv 1) (pe_un un_neg pe_int) (fun _ _ => rfl)) pe_non (nomark _)) (pw_or1 (pt_cmpR op_notN (pv 3) pe_non (nomark _)))))
        (pss_one (ps_ret pe_str))
        pss_nil)
      (pss_one (ps_ret (pe_ifExp (PW.pt (pw_and (pt_val (pe_own o_is_number (hr.mono (by decide)) (pa_cons (pv 2) pa_nil))) (pw_and1 (pt_cmpR op_eq (pv 2) pe_int (nomark _))))) pe_non pe_str))))
    pss_nil)
  (pss_cons (ps_if (PW.pt (pw_and (pt_cmpR op_notN (pv 3) pe_non (nomark _)) (pw_and1 (pt_cmpR op_lt (pe_ix ix_seq (pv 1) pe_int (fun _ _ => rfl)) (pv 3) (nomark _)))))
    (pss_one (ps_ret pe_str))
    pss_nil)
  (pss_one (ps_ret (pe_ifExp (PW.pt (pw_and (pt_val (pe_own o_is_number (hr.mono (by decide)) (pa_cons (pv 2) pa_nil))) (pw_and1 (pt_cmpR op_ge (pv 2) (pe_op op_sub (pe_ix ix_seq (pv 1) (pe_un un_neg pe_int) (fun _ _ => rfl)) (pe_ix ix_seq (pv 1) pe_int (fun _ _ => rfl))) (nomark _))))) pe_non pe_str)))))))), ?_⟩
    walk_at "s"
    refine fun H1 s1 => ?_
    have hF1 : SqS K H1 aF (f.map ov) := (s1.sqh hF).sqs
    have hA1 : SqH H1 aA (a.map ov) := s1.sqh hA
    walk_at "s"
    rw [ok.rf]
    walk_at "s"
    refine fun H2 s2 => ?_
    have hA2 : SqS K H2 aA (a.map ov) := (s2.sqh hA1).sqs
    have hF2 : SqS K H2 aF (f.map ov) := s2.sqs hF1
    walk_at "s"
    have hl : ¬ ((a.map ov).length : Int) = 0 := by
      cases a with
      | nil => exact absurd rfl ok.ne
      | cons x r => simp only [List.map_cons, List.length_cons]; omega
    refine ite2 (fun c => (hl (V.int.inj (of_decide_eq_true c))).elim) (fun _ => ?_)
    walk_at "s"
    rw [ok.ra]
    walk_at "s"
    refine ⟨fun σ' H' => σ' = [some (.ref aF), some (.ref aA), some (.int m), some (ov f.getLast?.join)] ∧ H' = H2, ?_, ?_⟩
    · walk_at "s"
      cases hf : f.getLast? with
      | none =>
        have : f = [] := List.getLast?_eq_none_iff.mp hf
        subst this
        exact ite2 (fun c => by simp at c) (fun _ => ⟨rfl, rfl⟩)
      | some e =>
        have hm : atI (f.map ov) (-1) = some (ov e) := atI_neg1 (by rw [last_map, hf]; rfl)
        have hp : 0 < f.length := by
          cases f with
          | nil => cases hf
          | cons x r => simp
        refine ite2 (fun c => ?_) (fun c => absurd (by simpa using hp) c)
        have hF3 := hF2
        rcases hF3 with hF3 | hF3
        · walk_at "s"
          rfl
        · walk_at "s"
          rfl
    · rintro σ' H' ⟨rfl, rfl⟩
      walk_at "s"
      have fin : Q .non H' := k _ (s1.trans s2)
      rcases ok.ct with ⟨lo, hi, h0, h1, h2, h3, h4⟩ | ⟨h0, h1, h2, h3⟩
      · have hm0 : atI (a.map ov) 0 = some (.int lo) := atI_head (by rw [head_map, h0]; rfl)
        have hm1 : atI (a.map ov) (-1) = some (.int hi) := atI_neg1 (by rw [last_map, h1]; rfl)
        have d0 : decide (0 ≤ m) = true := decide_eq_true h3
        have d1 : decide (hi - lo ≤ m) = true := decide_eq_true h4
        cases hj : f.getLast?.join with
        | none =>
          rcases hA2 with hA2 | hA2
          · walk_at "s"
            rw [d0]
            walk_at "s"
            rw [d1]
            walk_at "s"
            exact fin
          · walk_at "s"
            rw [d0]
            walk_at "s"
            rw [d1]
            walk_at "s"
            exact fin
        | some e =>
          have d2 : decide (lo < e) = false := decide_eq_false (by
            have := h2 e (by cases q : f.getLast? with | none => rw [q] at hj; cases hj | some y => rw [q] at hj; exact congrArg some hj)
            omega)
          rcases hA2 with hA2 | hA2
          · walk_at "s"
            rw [d2]
            walk_at "s"
            rw [d0]
            walk_at "s"
            rw [d1]
            walk_at "s"
            exact fin
          · walk_at "s"
            rw [d2]
            walk_at "s"
            rw [d0]
            walk_at "s"
            rw [d1]
            walk_at "s"
            exact fin
      · have hm0 : atI (a.map ov) 0 = some .non := atI_head (by rw [head_map, h0]; rfl)
        have hm1 : atI (a.map ov) (-1) = some .non := atI_neg1 (by rw [last_map, h1]; rfl)
        have hj : f.getLast?.join = none := by rcases h2 with h2 | h2 <;> rw [h2] <;> rfl
        subst h3
        rw [hj]
        rcases hA2 with hA2 | hA2
        · walk_at "s"
          exact fin
        · walk_at "s"
          exact fin
end
end My

namespace My
open PySem PySem.Spec PyProof.Rows L2
local macro_rules | `(tactic| walk_at "side") => `(tactic| first | (dsimp only; omega) | exact ⟨by omega, by omega⟩ | exact Or.inl ⟨by omega, by omega⟩ | exact Or.inr ⟨by omega, by omega⟩ | decide)
local macro_rules | `(tactic| walk_at "sq") => `(tactic| first | assumption | exact SqL.of (by assumption) | exact SqT.of (by assumption) | (refine L2.Same.seq (by assumption) ?_; walk_at "sq") | (refine L2.Same.seqT (by assumption) ?_; walk_at "sq") | exact Or.inl (by walk_at "sq") | exact Or.inr (by walk_at "sq"))
local macro_rules | `(tactic| walk_at "1") => `(tactic| first
  | refine ⟨_, rfl, iteT ?_⟩
  | refine ⟨_, rfl, iteF ?_⟩
  | refine ⟨_, rfl, ?_⟩
  | refine ⟨_, _, rfl, rfl, (by walk_at "side"), ?_⟩
  | refine ⟨_, _, rfl, rfl, ?_⟩
  | refine ⟨_, _, _, _, true, rfl, .ty _, .base (.int _), kit_ty (a := "int") (by decide +kernel), ?_⟩
  | refine ⟨_, _, _, _, false, rfl, .ty _, .base (.int _), kit_ty (a := "int") (by decide +kernel), ?_⟩
  | refine ⟨_, _, rfl, (by walk_at "sq"), ?_⟩
  | refine ⟨_, _, _, _, rfl, rfl, (by walk_at "sq"), (by first | rfl | assumption), ?_⟩
  | refine Or.inl ⟨_, _, _, _, rfl, rfl, (by walk_at "sq"), (by first | rfl | assumption), ?_⟩
  | refine Or.inr (Or.inl ⟨_, _, _, _, rfl, rfl, (by walk_at "sq"), (by first | rfl | assumption), ?_⟩)
  | refine ⟨rfl, ?_⟩
  | refine iteT ?_
  | refine iteF ?_
  | refine Or.inl ⟨_, rfl, ?_⟩)
local macro_rules | `(tactic| walk_at "s") => `(tactic| repeat walk_at "1")
local macro_rules | `(tactic| walk_at "size") => `(tactic| first | exact Nat.le_of_ble_eq_true rfl | (simp only [List.length_map, List.length_append, List.length_cons, List.length_nil]; omega))
local macro_rules | `(tactic| walk_at "new") => `(tactic| (first | refine ⟨(by walk_at "size"), fun p hp => ?_⟩ | refine fun p hp => ?_); (generalize hq : upd _ p _ = H1); (obtain ⟨s, e⟩ := new_facts hp hq); clear hq)

def later1 (m : Int) (t : Option Int) : Option Int := t.map (· + m)
theorem take_succ_map {α β : Type} {xs : List α} {i : Nat} {x : α} (f : α → β) (h : xs[i]? = some x) : (xs.take (i + 1)).map f = (xs.take i).map f ++ [f x] := by
  rw [List.take_add_one, h, List.map_append]
  rfl
theorem get_map {xs : List (Option Int)} {i : Nat} {x : V} (h : (xs.map ov)[i]? = some x) : ∃ t, xs[i]? = some t ∧ ov t = x := by simpa using h
/-! ### times as data -/
def od : Option Int → PyData
  | none => .none
  | some i => .int i
theorem dpAll_ov {K : PySem.W.Frag} {H : Hp} : ∀ xs : List (Option Int), DpAll K H (xs.map ov) (xs.map od)
  | [] => .nil
  | none :: r => .cons .non (dpAll_ov r)
  | some i :: r => .cons (.int i) (dpAll_ov r)
theorem canLay_od : ∀ xs : List (Option Int), PyData.canLayAll0 (xs.map od) = true
  | [] => rfl
  | none :: r => by
    show (true && PyData.canLayAll0 (r.map od)) = true
    rw [canLay_od r]; rfl
  | some i :: r => by
    show (true && PyData.canLayAll0 (r.map od)) = true
    rw [canLay_od r]; rfl
theorem depth_od : ∀ xs : List (Option Int), PyData.depthAll (xs.map od) = 0
  | [] => rfl
  | none :: r => by
    show max 0 (PyData.depthAll (r.map od)) = 0
    rw [depth_od r]; rfl
  | some i :: r => by
    show max 0 (PyData.depthAll (r.map od)) = 0
    rw [depth_od r]; rfl
theorem shaped_l (xs : List (Option Int)) : SeqAt.shaped (.list (xs.map od)) = true := by
  show (PyData.canLayAll0 (xs.map od) && decide (PyData.depthAll (xs.map od) + 1 ≤ 64)) = true
  rw [canLay_od, depth_od]; rfl
theorem shaped_t (xs : List (Option Int)) : SeqAt.shaped (.tuple (xs.map od)) = true := by
  show (PyData.canLayAll0 (xs.map od) && decide (PyData.depthAll (xs.map od) + 1 ≤ 64)) = true
  rw [canLay_od, depth_od]; rfl
theorem eqv_od (x y : Option Int) : PyData.eqv (od x) (od y) = decide (x = y) := by
  cases x <;> cases y
  · rfl
  · rfl
  · rfl
  · rename_i i j
    show (i == j) = decide (some i = some j)
    by_cases e : i = j
    · subst e; simp
    · rw [beq_eq_false_iff_ne.mpr e]
      exact (decide_eq_false fun q => e (Option.some.inj q)).symm
theorem eqvAll_od : ∀ xs ys : List (Option Int), PyData.eqvAll (xs.map od) (ys.map od) = decide (xs = ys)
  | [], [] => rfl
  | [], _ :: _ => rfl
  | _ :: _, [] => rfl
  | x :: xs, y :: ys => by
    show (PyData.eqv (od x) (od y) && PyData.eqvAll (xs.map od) (ys.map od)) = decide (x :: xs = y :: ys)
    rw [eqv_od, eqvAll_od xs ys]
    by_cases e : x = y
    · subst e; simp
    · rw [decide_eq_false e]
      exact (decide_eq_false fun q => e (List.cons.inj q).1).symm
theorem eqv_l (xs ys : List (Option Int)) : PyData.eqv (.list (xs.map od)) (.list (ys.map od)) = decide (xs = ys) := eqvAll_od xs ys
theorem eqv_t (xs ys : List (Option Int)) : PyData.eqv (.tuple (xs.map od)) (.tuple (ys.map od)) = decide (xs = ys) := eqvAll_od xs ys
/-- two lists of times compared -/
theorem rd_eqL {K : PySem.W.Frag} {H : Hp} {Q : VK} {p q : Addr} (xs ys : List (Option Int)) (h1 : SqL K H p (xs.map ov)) (h2 : SqL K H q (ys.map ov)) (k : Q (.bl (decide (xs = ys))) H) : rEqD K (.ref p) (.ref q) H Q :=
  ⟨_, _, .lst h1 (dpAll_ov xs), .lst h2 (dpAll_ov ys), shaped_l xs, shaped_l ys, by
    rw [show PyData.eqv (.list (xs.map od)) (.list (ys.map od)) = PyData.eqvAll (xs.map od) (ys.map od) from rfl, eqvAll_od]
    exact k⟩
theorem cut_from {xs : List V} {t : Nat} (h : t ≤ xs.length) : cutV xs (some (t : Int)) none = xs.drop t := by
  unfold cutV
  rw [HT.sIx_nat, HT.sIx_none, Nat.min_eq_left h]
  exact List.take_of_length_le (by rw [List.length_drop]; omega)
theorem cut_to {xs : List V} {t : Nat} (h : t ≤ xs.length) : cutV xs none (some (t : Int)) = xs.take t := by
  unfold cutV
  rw [HT.sIx_nat, HT.sIx_none, Nat.min_eq_left h, Nat.sub_zero]
  rfl
theorem cut_mid {xs : List V} {b t : Nat} (h : t ≤ xs.length) (hb : b ≤ t) : cutV xs (some (b : Int)) (some (t : Int)) = (xs.drop b).take (t - b) := by
  unfold cutV
  rw [HT.sIx_nat, HT.sIx_nat, Nat.min_eq_left h, Nat.min_eq_left (Nat.le_trans hb h)]
section
variable {P : Program} {w : World} {K : PySem.W.Frag} {mg : Str → Option Value} {base : Heap}
abbrev s_all_later : Stmt := topS 18
theorem sc_all_later : FnScope ["things", "lasts", "thing"] ["things", "lasts"] (defScope s_all_later) := ⟨rfl, rfl, rfl, by decide +kernel, rfl, by decide +kernel, by decide +kernel⟩
def spAllLater (K : PySem.W.Frag) : Sp := fun vs H Q _ => ∃ (a : Addr) (xs : List (Option Int)) (m : Int), vs = [.ref a, .int m] ∧ SqS K H a (xs.map ov) ∧ xs.length < sizeLine ∧ ∀ H' p, Same H H' → H p = none → H' p = some (.lst ((xs.map (later1 m)).map ov)) → Q (.ref p) H'
theorem ok_all_later (D : Df K mg "all_later" s_all_later ["things", "lasts"]) : Own P w K mg base "all_later" 1 ["things", "lasts"] (spAllLater K) := by
  refine D.own sc_all_later (fun vs H Q E h => ?_) (fun fa cdv A outer s H vs Q E hr h => ?_)
  · obtain ⟨_, _, _, rfl, _⟩ := h
    rfl
  · obtain ⟨a, xs, m, rfl, hS, hz, k⟩ := h
    refine ⟨_, (pss_one (ps_ret (pe_lc (own := [("thing", 2)]) (g := gName 2) (tt := tYes) rfl sc_all_later.nd (pi_alt (pi_list (pv 0)) (pi_tup (pv 0))) (blkOk_by (own := [("thing", 2)]) (N := ["things", "lasts", "thing"]) (sc := defScope s_all_later) (by decide +kernel)) (fun _ _ _ _ _ => (pg_name (i := 2) sc_all_later.nd rfl (Or.inl rfl))) (fun _ _ _ _ _ => pts_nil) (fun _ _ _ _ _ => (pe_ifExp (pt_cmpR op_isN (pv 2) pe_non (nomark _)) pe_non (pe_op op_add (pv 2) (pv 1))))))), ?_⟩
    refine seq_pi hS rfl fun J hJ => fun L nL => lc_seq hJ (fun i H' => Same H H' ∧ H' L = some (.lst (((xs.take i).map (later1 m)).map ov))) ⟨same_upd nL, upd_same⟩ (fun i H' q => q.1) ?_ ?_
    · rintro i x H' hi ⟨s1, e1⟩
      obtain ⟨t, ht, rfl⟩ := get_map hi
      have fin : Same H (upd H' L (.lst ((((xs.take i).map (later1 m)).map ov) ++ [ov (later1 m t)]))) ∧ (upd H' L (.lst ((((xs.take i).map (later1 m)).map ov) ++ [ov (later1 m t)]))) L = some (.lst (((xs.take (i + 1)).map (later1 m)).map ov)) := by
        refine ⟨s1.upd1 nL, ?_⟩
        rw [upd_same, take_succ_map _ ht, List.map_append]
        rfl
      have hz' : (((xs.take i).map (later1 m)).map ov).length < sizeLine := by
        rw [List.length_map, List.length_map, List.length_take]
        exact Nat.lt_of_le_of_lt (Nat.min_le_right _ _) hz
      cases t with
      | none =>
        walk_at "s"
        exact ⟨_, e1, hz', fin⟩
      | some t =>
        walk_at "s"
        exact ⟨_, e1, hz', fin⟩
    · rintro H' ⟨s1, e1⟩
      rw [show (xs.map ov).length = xs.length by simp, List.take_length] at e1
      exact k _ _ s1 nL e1
abbrev s_shortest_turn : Stmt := topS 17
theorem sc_shortest_turn : FnScope ["again", "more", "whole", "turn"] ["again", "more"] (defScope s_shortest_turn) := ⟨rfl, rfl, rfl, by decide +kernel, rfl, by decide +kernel, by decide +kernel⟩
/-- again comes again after t things -/
structure Fits (a : List (Option Int)) (m : Int) (t : Nat) : Prop where
  pos : 0 < t
  dvd : t ∣ a.length
  num : (m * t) % a.length = 0
  eq : a.drop t = (a.take (a.length - t)).map (later1 (m * t / a.length))
/-- the least one -/
structure LeastTurn (a : List (Option Int)) (m : Int) (t : Nat) : Prop where
  le : t ≤ a.length
  fits : Fits a m t
  least : ∀ t', t' < t → ¬ Fits a m t'
theorem fits_whole {a : List (Option Int)} {m : Int} (h : a ≠ []) : Fits a m a.length :=
  ⟨List.length_pos_iff.mpr h, Nat.dvd_refl _, by simp, by simp⟩
def spShortT : Sp := fun vs H Q _ => ∃ (aA : Addr) (a : List (Option Int)) (m : Int), vs = [.ref aA, .int m] ∧ SqH H aA (a.map ov) ∧ a ≠ [] ∧ a.length < 1000 ∧ 0 ≤ m ∧ m < 2 ^ 60 ∧ ∀ H' t, Same H H' → LeastTurn a m t → Q (.int (t : Int)) H'
theorem ok_shortest_turn (D : Df K mg "_shortest_turn" s_shortest_turn ["again", "more"]) (T : Txt mg) (o_all_later : Own P w K mg base "all_later" 1 ["things", "lasts"] (spAllLater K)) : Own P w K mg base "_shortest_turn" 2 ["again", "more"] spShortT := by
  refine D.own sc_shortest_turn (fun vs H Q E h => ?_) (fun fa cdv A outer s H vs Q E hr h => ?_)
  · obtain ⟨_, _, _, rfl, _⟩ := h
    rfl
  · obtain ⟨aA, a, m, rfl, hA, hne, hz, m0, m1, k⟩ := h
    refine ⟨_, (pss_cons (ps_set (i := 2) sc_shortest_turn.nd rfl (Or.inl rfl) (pe_callB call_len_seq (by rfl) T.len PySem.boot_len (pa_cons (pv 0) pa_nil)))
  (pss_cons (ps_for PassesOwn.never rfl (pi_range2 (by rfl) T.range (pa_cons pe_int (pa_cons (pv 2) pa_nil))) (pg_name (i := 3) sc_shortest_turn.nd rfl (Or.inl rfl))
    (pss_one (ps_if (PW.pt (pw_and (pt_cmpR op_eq (pe_op op_mod (pv 2) (pv 3)) pe_int (nomark _)) (pw_and1 (pt_cmpR op_eq (pe_op op_mod (pe_op op_mul (pv 1) (pv 3)) (pv 2)) pe_int (nomark _)))))
        (pss_one (ps_if (pt_cmpR (op_eqD hr.units) (pe_callTy call_list_of (by rfl) T.list (by decide +kernel) (pa_cons (pe_slice (SlR.or sl_list sl_tup) (pv 0) (po_some (pv 3)) po_none) pa_nil)) (pe_own o_all_later (hr.mono (by decide)) (pa_cons (pe_slice (SlR.or sl_list sl_tup) (pv 0) po_none (po_some (pe_op op_sub (pv 2) (pv 3)))) (pa_cons (pe_op op_fdiv (pe_op op_mul (pv 1) (pv 3)) (pv 2)) pa_nil))) (nomark _))
            (pss_one (ps_ret (pv 3)))
            pss_nil))
        pss_nil)))
  (pss_one (ps_ret (pv 2))))), ?_⟩
    have hA' : SqS K H aA (a.map ov) := hA.sqs
    have hlen : (a.map ov).length = a.length := List.length_map ..
    have hp : 0 < a.length := List.length_pos_iff.mpr hne
    walk_at "s"
    rw [hlen]
    refine ⟨1, a.length, rfl, ⟨by decide, by decide, by omega, by omega⟩, for_range (lo := 1) (n := ((a.length : Int) - 1).toNat) (fun i σ H' => ∃ y, σ = [some (.ref aA), some (.int m), some (.int (a.length : Int)), y] ∧ Same H H' ∧ ∀ t', t' < i + 1 → ¬ Fits a m t')
      ⟨_, rfl, Same.refl _, fun t' ht f => by have := f.pos; omega⟩ ?_ ?_⟩
    · rintro i σ H' hi ⟨y, rfl, s1, hno⟩
      have ei : (1 : Int) + (i : Int) = ((i + 1 : Nat) : Int) := by omega
      have hi1 : i + 1 < a.length := by omega
      rw [ei]
      have nxt : ¬ Fits a m (i + 1) → ∀ t', t' < i + 1 + 1 → ¬ Fits a m t' := fun h t' ht f => by
        by_cases e : t' = i + 1
        · rw [e] at f
          exact h f
        · exact hno t' (by omega) f
      walk_at "s"
      refine ite2 (fun c1 => ?_) (fun c1 => ?_)
      · walk_at "s"
        refine ite2 (fun c2 => ?_) (fun c2 => ?_)
        · walk_at "s"
          have hle : i + 1 ≤ (a.map ov).length := by omega
          have nw1 : ¬ (HT.sIx (a.map ov).length 0 (some ((i + 1 : Nat) : Int)) = 0 ∧ HT.sIx (a.map ov).length (a.map ov).length none = (a.map ov).length) := fun q => by
            have q1 := q.1
            rw [HT.sIx_nat] at q1
            omega
          have esub : ((a.length : Int) - ((i + 1 : Nat) : Int)) = ((a.length - (i + 1) : Nat) : Int) := by omega
          have nw2 : ¬ (HT.sIx (a.map ov).length 0 none = 0 ∧ HT.sIx (a.map ov).length (a.map ov).length (some ((a.length - (i + 1) : Nat) : Int)) = (a.map ov).length) := fun q => by
            have q1 := q.2
            rw [HT.sIx_nat] at q1
            omega
          rcases hA with hA | hA
          all_goals (
            first
              | refine Or.inl ⟨_, _, rfl, SqL.of (s1 _ _ hA), ?_⟩
              | refine Or.inr ⟨_, _, rfl, SqT.of (s1 _ _ hA), nw1, ?_⟩
            walk_at "new"
            rename_i p1 n1 H1 s2 e1
            rw [cut_from hle, ← List.map_drop] at e1
            walk_at "s"
            walk_at "new"
            rename_i p2 n2 H2 s3 e2
            walk_at "s"
            rw [esub]
            first
              | refine Or.inl ⟨_, _, rfl, SqL.of (s3 _ _ (s2 _ _ (s1 _ _ hA))), ?_⟩
              | refine Or.inr ⟨_, _, rfl, SqT.of (s3 _ _ (s2 _ _ (s1 _ _ hA))), nw2, ?_⟩
            walk_at "new"
            rename_i p3 n3 H3 s4 e3
            rw [cut_to (by omega), ← List.map_take] at e3
            walk_at "s"
            refine ⟨p3, a.take (a.length - (i + 1)), _, rfl, (by first | exact Or.inl (SqL.of e3) | exact Or.inr (SqT.of e3)), Nat.lt_of_le_of_lt (by rw [List.length_take]; omega) (small1000 (by omega : 1000 ≤ 1000)), fun H4 p4 s5 n4 e4 => ?_⟩
            refine ⟨_, _, .lst (SqL.of (s5 _ _ (s4 _ _ e2))) (dpAll_ov _), .lst (SqL.of e4) (dpAll_ov _), shaped_l _, shaped_l _, ?_⟩
            rw [eqv_l]
            have s6 : Same H H4 := s1.trans (s2.trans (s3.trans (s4.trans s5)))
            walk_at "s"
            have m1e : ((a.length : Int) % ((i + 1 : Nat) : Int)) = 0 := V.int.inj (of_decide_eq_true c1)
            have m2e : (m * ((i + 1 : Nat) : Int)) % (a.length : Int) = 0 := V.int.inj (of_decide_eq_true c2)
            refine ite2 (fun c3 => ?_) (fun c3 => ?_)
            · walk_at "s"
              exact k _ _ s6 ⟨by omega, ⟨by omega, Nat.dvd_of_mod_eq_zero (by omega), m2e, of_decide_eq_true c3⟩, fun t' ht => hno t' (by omega)⟩
            · walk_at "s"
              exact ⟨s6, nxt fun f => c3 (decide_eq_true f.eq)⟩)
        · walk_at "s"
          refine ⟨s1, nxt fun f => c2 (decide_eq_true (congrArg V.int f.num))⟩
      · walk_at "s"
        refine ⟨s1, nxt fun f => c1 (decide_eq_true (congrArg V.int ?_))⟩
        have := Nat.mod_eq_zero_of_dvd f.dvd
        omega
    · rintro σ H' ⟨y, rfl, s1, hno⟩
      walk_at "s"
      refine k _ _ s1 ⟨Nat.le_refl _, fits_whole hne, fun t' ht f => hno t' (by omega) f⟩
end
end My

namespace My
open PySem PySem.Spec PyProof.Rows L2
local macro_rules | `(tactic| walk_at "side") => `(tactic| first | (dsimp only; omega) | exact ⟨by omega, by omega⟩ | exact Or.inl ⟨by omega, by omega⟩ | exact Or.inr ⟨by omega, by omega⟩ | decide)
local macro_rules | `(tactic| walk_at "sq") => `(tactic| first | assumption | exact SqL.of (by assumption) | exact SqT.of (by assumption) | (refine L2.Same.seq (by assumption) ?_; walk_at "sq") | (refine L2.Same.seqT (by assumption) ?_; walk_at "sq") | exact Or.inl (by walk_at "sq") | exact Or.inr (by walk_at "sq"))
local macro_rules | `(tactic| walk_at "1") => `(tactic| first
  | refine ⟨_, rfl, iteT ?_⟩
  | refine ⟨_, rfl, iteF ?_⟩
  | refine ⟨_, rfl, ?_⟩
  | refine ⟨_, _, rfl, rfl, (by walk_at "side"), ?_⟩
  | refine ⟨_, _, rfl, rfl, ?_⟩
  | refine ⟨_, _, _, _, true, rfl, .ty _, .base (.int _), kit_ty (a := "int") (by decide +kernel), ?_⟩
  | refine ⟨_, _, _, _, false, rfl, .ty _, .base (.int _), kit_ty (a := "int") (by decide +kernel), ?_⟩
  | refine ⟨_, _, rfl, (by walk_at "sq"), ?_⟩
  | refine ⟨_, _, _, _, rfl, rfl, (by walk_at "sq"), (by first | rfl | assumption), ?_⟩
  | refine Or.inl ⟨_, _, _, _, rfl, rfl, (by walk_at "sq"), (by first | rfl | assumption), ?_⟩
  | refine Or.inr (Or.inl ⟨_, _, _, _, rfl, rfl, (by walk_at "sq"), (by first | rfl | assumption), ?_⟩)
  | refine ⟨rfl, ?_⟩
  | refine iteT ?_
  | refine iteF ?_
  | refine Or.inl ⟨_, rfl, ?_⟩)
local macro_rules | `(tactic| walk_at "s") => `(tactic| repeat walk_at "1")
local macro_rules | `(tactic| walk_at "size") => `(tactic| first | exact Nat.le_of_ble_eq_true rfl | (simp only [List.length_map, List.length_append, List.length_cons, List.length_nil]; omega))
local macro_rules | `(tactic| walk_at "new") => `(tactic| (first | refine ⟨(by walk_at "size"), fun p hp => ?_⟩ | refine fun p hp => ?_); (generalize hq : upd _ p _ = H1); (obtain ⟨s, e⟩ := new_facts hp hq); clear hq)

/-- the least begin from which on what stands comes again -/
structure ShortF (xs : List (Option Int)) (t : Nat) (g : Int) (b b' : Nat) : Prop where
  le : b' ≤ b
  eq : ∀ n, b' ≤ n → n < b → xs[n + t]? = (xs[n]?).map (later1 g)
  least : b' = 0 ∨ xs[b' - 1 + t]? ≠ (xs[b' - 1]?).map (later1 g)
section
variable {P : Program} {w : World} {K : PySem.W.Frag} {mg : Str → Option Value} {base : Heap}
abbrev s_shortest_first : Stmt := topS 19
theorem sc_shortest_first : FnScope ["things", "begin", "turn", "grow"] ["things", "begin", "turn", "grow"] (defScope s_shortest_first) := ⟨rfl, rfl, rfl, by decide +kernel, rfl, by decide +kernel, by decide +kernel⟩
def spShortF : Sp := fun vs H Q _ => ∃ (aT : Addr) (xs : List (Option Int)) (b t : Nat) (g : Int), vs = [.ref aT, .int b, .int t, .int g] ∧ H aT = some (.lst (xs.map ov)) ∧ 0 < t ∧ b + t ≤ xs.length ∧ ∀ H' b', Same H H' → ShortF xs t g b b' → Q (.int (b' : Nat)) H'
theorem ok_shortest_first (D : Df K mg "_shortest_first" s_shortest_first ["things", "begin", "turn", "grow"]) (o_all_later : Own P w K mg base "all_later" 1 ["things", "lasts"] (spAllLater K)) : Own P w K mg base "_shortest_first" 2 ["things", "begin", "turn", "grow"] spShortF := by
  refine D.own sc_shortest_first (fun vs H Q E h => ?_) (fun fa cdv A outer s H vs Q E hr h => ?_)
  · obtain ⟨_, _, _, _, _, rfl, _⟩ := h
    rfl
  · obtain ⟨aT, xs, b, t, g, rfl, hT, ht, hbt, k⟩ := h
    refine ⟨_, (pss_cons (ps_while PassesOwn.never (PW.pt (pw_and (pt_cmpR op_gt (pv 1) pe_int (nomark _)) (pw_and1 (pt_cmpR (op_eqD hr.units) (pe_lst (pa_cons (pe_ix ix_list (pv 0) (pe_op op_add (pe_op op_sub (pv 1) pe_int) (pv 2)) (fun _ _ => rfl)) pa_nil)) (pe_own o_all_later (hr.mono (by decide)) (pa_cons (pe_lst (pa_cons (pe_ix ix_list (pv 0) (pe_op op_sub (pv 1) pe_int) (fun _ _ => rfl)) pa_nil)) (pa_cons (pv 3) pa_nil))) (nomark _)))))
    (pss_one (ps_aug (i := 1) sc_shortest_first.nd rfl (Or.inl rfl) pe_int ip_sub)))
  (pss_one (ps_ret (pv 1)))), ?_⟩
    refine ⟨fun m σ H' => m ≤ b ∧ σ = [some (.ref aT), some (.int (m : Nat)), some (.int (t : Nat)), some (.int g)] ∧ Same H H' ∧ ∀ n, m ≤ n → n < b → xs[n + t]? = (xs[n]?).map (later1 g),
      ⟨b, Nat.le_refl _, rfl, Same.refl _, fun n h1 h2 => absurd h1 (by omega)⟩, ?_⟩
    rintro m σ H' ⟨hm, rfl, s1, he⟩
    cases m with
    | zero =>
      walk_at "s"
      exact k _ _ s1 ⟨Nat.zero_le _, he, Or.inl rfl⟩
    | succ m =>
      walk_at "s"
      have hp : decide ((0 : Int) < ((m + 1 : Nat) : Int)) = true := decide_eq_true (by omega)
      rw [hp]
      walk_at "s"
      have l1 : m + t < xs.length := by omega
      have l2 : m < xs.length := by omega
      have g1 : (xs.map ov)[m + t]? = some (ov xs[m + t]) := by rw [List.getElem?_map, List.getElem?_eq_getElem l1]; rfl
      have g2 : (xs.map ov)[m]? = some (ov xs[m]) := by rw [List.getElem?_map, List.getElem?_eq_getElem l2]; rfl
      refine ⟨_, _, _, _, rfl, rfl, SqL.of (s1 _ _ hT), at_of (by omega) g1, ?_⟩
      walk_at "s"
      walk_at "new"
      rename_i p1 n1 H1 s2 e1
      walk_at "s"
      refine ⟨_, _, _, _, rfl, rfl, SqL.of (s2 _ _ (s1 _ _ hT)), at_of (by omega) g2, ?_⟩
      walk_at "s"
      walk_at "new"
      rename_i p2 n2 H2 s3 e2
      walk_at "s"
      refine ⟨p2, [xs[m]], g, rfl, Or.inl (SqL.of e2), by exact Nat.lt_of_lt_of_le (by decide : 1 < 1000) (Nat.le_of_lt (small1000 (Nat.le_refl _))), fun H3 p3 s4 n4 e3 => ?_⟩
      refine ⟨_, _, .lst (xs := [xs[m + t]].map ov) (SqL.of (s4 _ _ (s3 _ _ e1))) (dpAll_ov [xs[m + t]]), .lst (SqL.of e3) (dpAll_ov _), shaped_l _, shaped_l _, ?_⟩
      rw [eqv_l]
      walk_at "s"
      have s5 : Same H H3 := s1.trans (s2.trans (s3.trans s4))
      have hx : xs[m + t]? = some xs[m + t] := List.getElem?_eq_getElem l1
      have hy : xs[m]? = some xs[m] := List.getElem?_eq_getElem l2
      refine ite2 (fun c => ?_) (fun c => ?_)
      · have c' := of_decide_eq_true c
        have c2 : xs[m + t] = later1 g xs[m] := by simpa using c'
        refine ⟨fun σ' H'' => σ' = [some (.ref aT), some (.int (m : Nat)), some (.int (t : Nat)), some (.int g)] ∧ H'' = H3, ?_, ?_⟩
        · rintro σ' H'' ⟨rfl, rfl⟩
          refine ⟨m, by omega, by omega, rfl, s5, fun n h1 h2 => ?_⟩
          by_cases e : n = m
          · rw [e, hx, hy, c2]; rfl
          · exact he n (by omega) h2
        · walk_at "s"
          refine ⟨?_, rfl⟩
          show [some (V.ref aT), some (V.int (((m + 1 : Nat) : Int) - 1)), some (V.int (t : Nat)), some (V.int g)] = _
          rw [show ((m + 1 : Nat) : Int) - 1 = (m : Int) by omega]
      · have c2 : ¬ xs[m + t] = later1 g xs[m] := fun q => c (decide_eq_true (by rw [q]; rfl))
        walk_at "s"
        refine k _ _ s5 ⟨hm, he, Or.inr ?_⟩
        show xs[m + t]? ≠ (xs[m]?).map (later1 g)
        rw [hx, hy]
        exact fun q => c2 (Option.some.inj q)
end
end My

namespace My
open PySem PySem.Spec PyProof.Rows L2
local macro_rules | `(tactic| walk_at "side") => `(tactic| first | (dsimp only; omega) | exact ⟨by omega, by omega⟩ | exact Or.inl ⟨by omega, by omega⟩ | exact Or.inr ⟨by omega, by omega⟩ | decide)
local macro_rules | `(tactic| walk_at "sq") => `(tactic| first | assumption | exact SqL.of (by assumption) | exact SqT.of (by assumption) | (refine L2.Same.seq (by assumption) ?_; walk_at "sq") | (refine L2.Same.seqT (by assumption) ?_; walk_at "sq") | exact Or.inl (by walk_at "sq") | exact Or.inr (by walk_at "sq"))
local macro_rules | `(tactic| walk_at "1") => `(tactic| first
  | refine ⟨_, rfl, iteT ?_⟩
  | refine ⟨_, rfl, iteF ?_⟩
  | refine ⟨_, rfl, ?_⟩
  | refine ⟨_, _, rfl, rfl, (by walk_at "side"), ?_⟩
  | refine ⟨_, _, rfl, rfl, ?_⟩
  | refine ⟨_, _, _, _, true, rfl, .ty _, .base (.int _), kit_ty (a := "int") (by decide +kernel), ?_⟩
  | refine ⟨_, _, _, _, false, rfl, .ty _, .base (.int _), kit_ty (a := "int") (by decide +kernel), ?_⟩
  | refine ⟨_, _, rfl, (by walk_at "sq"), ?_⟩
  | refine ⟨_, _, _, _, rfl, rfl, (by walk_at "sq"), (by first | rfl | assumption), ?_⟩
  | refine Or.inl ⟨_, _, _, _, rfl, rfl, (by walk_at "sq"), (by first | rfl | assumption), ?_⟩
  | refine Or.inr (Or.inl ⟨_, _, _, _, rfl, rfl, (by walk_at "sq"), (by first | rfl | assumption), ?_⟩)
  | refine ⟨_, _, rfl, Or.inl ⟨(by walk_at "sq"), ?_⟩⟩
  | refine ⟨rfl, ?_⟩
  | refine iteT ?_
  | refine iteF ?_
  | refine Or.inl ⟨_, rfl, ?_⟩)
local macro_rules | `(tactic| walk_at "s") => `(tactic| repeat walk_at "1")
local macro_rules | `(tactic| walk_at "size") => `(tactic| first | exact Nat.le_of_ble_eq_true rfl | (simp only [List.length_map, List.length_append, List.length_cons, List.length_nil]; omega))
local macro_rules | `(tactic| walk_at "new") => `(tactic| (first | refine ⟨(by walk_at "size"), fun p hp => ?_⟩ | refine fun p hp => ?_); (generalize hq : upd _ p _ = H1); (obtain ⟨s, e⟩ := new_facts hp hq); clear hq)

theorem upd_facts {H H1 : Hp} {p : Addr} {o : HO} (hq : upd H p o = H1) : H1 p = some o ∧ ∀ b, b ≠ p → H1 b = H b := by
  subst hq
  exact ⟨upd_same, fun b h => upd_ne h⟩
/-- a row's attributes -/
def rowF (pf pa : Addr) (m : Int) : List (Str × V) := [("first", .ref pf), ("again", .ref pa), ("more", .int m)]
def RowAt (C : Addr) (H : Hp) (p : Addr) (f a : List (Option Int)) (m : Int) : Prop :=
  ∃ dx pf pa, H p = some (.ins C dx (rowF pf pa m)) ∧ H pf = some (.tup (f.map ov)) ∧ H pa = some (.tup (a.map ov))
theorem _root_.L2.Same.row {C : Addr} {H H' : Hp} {p : Addr} {f a : List (Option Int)} {m : Int} (s : Same H H') (h : RowAt C H p f a m) : RowAt C H' p f a m := by
  obtain ⟨dx, pf, pa, h1, h2, h3⟩ := h
  exact ⟨dx, pf, pa, s _ _ h1, s _ _ h2, s _ _ h3⟩
/-- the least form of a row -/
def MadeOf (f a : List (Option Int)) (m : Int) (f' a' : List (Option Int)) (m' : Int) : Prop :=
  ∃ t b, LeastTurn a m t ∧ ShortF (f ++ a) t (m * t / a.length) f.length b ∧ f' = (f ++ a).take b ∧ a' = ((f ++ a).drop b).take t ∧ m' = m * t / a.length
structure RowCls (K : PySem.W.Frag) (mg : Str → Option Value) (C : Addr) : Prop where
  cl : Cls K C
  nF : NoAttr K C "first"
  nA : NoAttr K C "again"
  nM : NoAttr K C "more"
section
variable {P : Program} {w : World} {K : PySem.W.Frag} {mg : Str → Option Value} {base : Heap} {C : Addr}
abbrev s_Row_init : Stmt := inClass (topS 14) 0
theorem sc_Row_init : FnScope ["self", "first", "again", "more", "word", "turn", "grow", "things", "begin"] ["self", "first", "again", "more"] (defScope s_Row_init) := ⟨rfl, rfl, rfl, by decide +kernel, rfl, by decide +kernel, by decide +kernel⟩
def spInit (C : Addr) : Sp := fun vs H Q _ => ∃ (H0 : Hp) (p dx aF aA : Addr) (f a : List (Option Int)) (m : Int), vs = [.ref p, .ref aF, .ref aA, .int m] ∧ H0 p = none ∧ Same H0 H ∧ H p = some (.ins C dx []) ∧ SqH H0 aF (f.map ov) ∧ SqH H0 aA (a.map ov) ∧
  OkRow f a m ∧ f.length < 500 ∧ a.length < 500 ∧ 0 ≤ m ∧ m < 2 ^ 60 ∧ ∀ H' f' a' m', Same H0 H' → RowAt C H' p f' a' m' → MadeOf f a m f' a' m' → Q .non H'
theorem ok_init {f1 : Addr} {fd : FuncData} (F : FunD K "__init__" "Row.__init__" (defArgs s_Row_init) (defBody s_Row_init) (defScope s_Row_init) [.int 0] [] f1 fd) (R : RowCls K mg C) (T : Txt mg)
    (o_wrong_argument : Own P w K mg base "_wrong_argument" 3 ["first", "again", "more"] spWrong) (o_shortest_turn : Own P w K mg base "_shortest_turn" 2 ["again", "more"] spShortT)
    (o_shortest_first : Own P w K mg base "_shortest_first" 2 ["things", "begin", "turn", "grow"] spShortF) : FnOk P w K mg base CX0 4 f1 fd ["self", "first", "again", "more"] (spInit C) := by
  refine F.ok sc_Row_init (fun vs H Q E h => ?_) (fun cdv A outer s H vs Q E hr h => ?_)
  · obtain ⟨_, _, _, _, _, _, _, _, rfl, _⟩ := h
    rfl
  · obtain ⟨H0, p, dx, aF, aA, f, a, m, rfl, hp0, s0, hp, hF, hA, ok, lf, la, m0, m1, k⟩ := h
    refine ⟨_, (pss_cons (ps_set (i := 4) sc_Row_init.nd rfl (Or.inl rfl) (pe_own o_wrong_argument (hr.mono (by decide)) (pa_cons (pv 1) (pa_cons (pv 2) (pa_cons (pv 3) pa_nil)))))
  (pss_cons (ps_if (pt_cmpR op_notN (pv 4) pe_non (nomark _))
    (pss_one ps_never)
    pss_nil)
  (pss_cons (ps_set (i := 5) sc_Row_init.nd rfl (Or.inl rfl) (pe_own o_shortest_turn (hr.mono (by decide)) (pa_cons (pv 2) (pa_cons (pv 3) pa_nil))))
  (pss_cons (ps_set (i := 6) sc_Row_init.nd rfl (Or.inl rfl) (pe_op op_fdiv (pe_op op_mul (pv 3) (pv 5)) (pe_callB call_len_seq (by rfl) T.len PySem.boot_len (pa_cons (pv 2) pa_nil))))
  (pss_cons (ps_set (i := 7) sc_Row_init.nd rfl (Or.inl rfl) (pe_lst (StX.pa_star (pv 1) (StX.pa_star (pv 2) pa_nil))))
  (pss_cons (ps_set (i := 8) sc_Row_init.nd rfl (Or.inl rfl) (pe_own o_shortest_first (hr.mono (by decide)) (pa_cons (pv 7) (pa_cons (pe_callB call_len_seq (by rfl) T.len PySem.boot_len (pa_cons (pv 1) pa_nil)) (pa_cons (pv 5) (pa_cons (pv 6) pa_nil))))))
  (pss_cons (ps_fld (pv 0) (pe_callTy call_tuple_of (by rfl) T.tuple (by decide +kernel) (pa_cons (pe_slice sl_list (pv 7) po_none (po_some (pv 8))) pa_nil)) rfl)
  (pss_cons (ps_fld (pv 0) (pe_callTy call_tuple_of (by rfl) T.tuple (by decide +kernel) (pa_cons (pe_slice sl_list (pv 7) (po_some (pv 8)) (po_some (pe_op op_add (pv 8) (pv 5)))) pa_nil)) rfl)
  (pss_one (ps_fld (pv 0) (pv 6) rfl)))))))))), ?_⟩
    have h1000 : 1000 < sizeLine := small1000 (Nat.le_refl _)
    walk_at "s"
    refine ⟨aF, aA, f, a, m, rfl, s0.sqh hF, s0.sqh hA, ok, fun H1 s1 => ?_⟩
    walk_at "s"
    refine ⟨aA, a, m, rfl, s1.sqh (s0.sqh hA), ok.ne, by omega, m0, m1, fun H2 t s2 ht => ?_⟩
    have t0 := ht.fits.pos
    have t1 := ht.le
    have hA2 : SqH H2 aA (a.map ov) := s2.sqh (s1.sqh (s0.sqh hA))
    have hF2 : SqH H2 aF (f.map ov) := s2.sqh (s1.sqh (s0.sqh hF))
    have hA2s : SqL K H2 aA (a.map ov) ∨ SqT K H2 aA (a.map ov) := hA2.sqs
    have hA2t : SqT K H2 aA (a.map ov) ∨ SqL K H2 aA (a.map ov) := hA2.sqs.symm
    have hF2t : SqT K H2 aF (f.map ov) ∨ SqL K H2 aF (f.map ov) := hF2.sqs.symm
    have hla : ((a.map ov).length : Int) = (a.length : Int) := by rw [List.length_map]
    walk_at "s"
    walk_at "new"
    rename_i pt nt H3 s3 e3
    rw [show f.map ov ++ (a.map ov ++ []) = (f ++ a).map ov by rw [List.append_nil, List.map_append]] at e3
    have hF3 : SqL K H3 aF (f.map ov) ∨ SqT K H3 aF (f.map ov) := (s3.sqh hF2).sqs
    walk_at "s"
    rw [hla, show (f.map ov).length = f.length from List.length_map ..]
    refine ⟨pt, f ++ a, f.length, t, _, rfl, e3, t0, by rw [List.length_append]; omega, fun H4 b s4 hb => ?_⟩
    have hlen : (f ++ a).length = f.length + a.length := List.length_append
    have b0 := hb.le
    have e4 := s4 _ _ e3
    walk_at "s"
    have s04 : Same H0 H4 := s0.trans (s1.trans (s2.trans (s3.trans s4)))
    have hp4 : H4 p = some (.ins C dx []) := s4 _ _ (s3 _ _ (s2 _ _ (s1 _ _ hp)))
    walk_at "new"
    rename_i p5 n5 H5 s5 e5
    rw [cut_to (by rw [List.length_map]; omega), ← List.map_take] at e5
    walk_at "s"
    walk_at "new"
    rename_i p6 n6 H6 s6 e6
    have hp6 : H6 p = some (.ins C dx []) := s6 _ _ (s5 _ _ hp4)
    have d6 : p ≠ p6 := ne_of_none (s5 _ _ hp4) n6
    refine ⟨_, rfl, p, C, dx, [], rfl, hp6, R.cl, R.nF, (by show 0 < 1000; decide), ?_⟩
    generalize hq : upd _ p _ = H7
    obtain ⟨e7, o7⟩ := upd_facts hq
    clear hq
    have dt : pt ≠ p := fun q => by
      rw [q] at e4
      rw [e4] at hp4
      cases hp4
    have e7t : H7 pt = some (.lst ((f ++ a).map ov)) := (o7 _ dt).trans (s6 _ _ (s5 _ _ e4))
    have e7p6 : H7 p6 = some (.tup (((f ++ a).take b).map ov)) := (o7 _ d6.symm).trans e6
    walk_at "s"
    rw [show (b : Int) + (t : Int) = ((b + t : Nat) : Int) by omega]
    walk_at "s"
    walk_at "new"
    rename_i p8 n8 H8 s8 e8
    rw [cut_mid (by rw [List.length_map]; omega) (by omega), Nat.add_sub_cancel_left, ← List.map_drop, ← List.map_take] at e8
    walk_at "s"
    walk_at "new"
    rename_i p9 n9 H9 s9 e9
    have hp9 := s9 _ _ (s8 _ _ e7)
    have d9 : p ≠ p9 := ne_of_none (s8 _ _ e7) n9
    have e9p6 := s9 _ _ (s8 _ _ e7p6)
    refine ⟨_, rfl, p, C, dx, _, rfl, hp9, R.cl, R.nA, (by show 1 < 1000; decide), ?_⟩
    generalize hq : upd _ p _ = H10
    obtain ⟨e10, o10⟩ := upd_facts hq
    clear hq
    refine ⟨_, rfl, _, rfl, p, C, dx, _, rfl, e10, R.cl, R.nM, (by show 2 < 1000; decide), ?_⟩
    generalize hq : upd _ p _ = H11
    obtain ⟨e11, o11⟩ := upd_facts hq
    clear hq
    have np : ∀ c o, H0 c = some o → c ≠ p := fun c o e => ne_of_none e hp0
    refine k H11 ((f ++ a).take b) (((f ++ a).drop b).take t) _ (fun c o e => ?_) ⟨dx, p6, p9, e11, ?_, ?_⟩ ⟨t, b, ht, hb, rfl, rfl, rfl⟩
    · rw [o11 _ (np _ _ e), o10 _ (np _ _ e)]
      refine s9 _ _ (s8 _ _ ?_)
      rw [o7 _ (np _ _ e)]
      exact s6 _ _ (s5 _ _ (s04 _ _ e))
    · rw [o11 _ d6.symm, o10 _ d6.symm]
      exact e9p6
    · rw [o11 _ d9.symm, o10 _ d9.symm]
      exact e9
end
end My

namespace My
open PySem PySem.Spec PyProof.Rows L2
local macro_rules | `(tactic| walk_at "side") => `(tactic| first | (dsimp only; omega) | exact ⟨by omega, by omega⟩ | exact Or.inl ⟨by omega, by omega⟩ | exact Or.inr ⟨by omega, by omega⟩ | decide)
local macro_rules | `(tactic| walk_at "sq") => `(tactic| first | assumption | exact SqL.of (by assumption) | exact SqT.of (by assumption) | (refine L2.Same.seq (by assumption) ?_; walk_at "sq") | (refine L2.Same.seqT (by assumption) ?_; walk_at "sq") | exact Or.inl (by walk_at "sq") | exact Or.inr (by walk_at "sq"))
local macro_rules | `(tactic| walk_at "1") => `(tactic| first
  | refine ⟨_, rfl, iteT ?_⟩
  | refine ⟨_, rfl, iteF ?_⟩
  | refine ⟨_, rfl, ?_⟩
  | refine ⟨_, _, rfl, rfl, (by walk_at "side"), ?_⟩
  | refine ⟨_, _, rfl, rfl, ?_⟩
  | refine ⟨_, _, _, _, true, rfl, .ty _, .base (.int _), kit_ty (a := "int") (by decide +kernel), ?_⟩
  | refine ⟨_, _, _, _, false, rfl, .ty _, .base (.int _), kit_ty (a := "int") (by decide +kernel), ?_⟩
  | refine ⟨_, _, rfl, (by walk_at "sq"), ?_⟩
  | refine ⟨_, _, _, _, rfl, rfl, (by walk_at "sq"), (by first | rfl | assumption), ?_⟩
  | refine Or.inl ⟨_, _, _, _, rfl, rfl, (by walk_at "sq"), (by first | rfl | assumption), ?_⟩
  | refine Or.inr (Or.inl ⟨_, _, _, _, rfl, rfl, (by walk_at "sq"), (by first | rfl | assumption), ?_⟩)
  | refine ⟨_, _, rfl, Or.inl ⟨(by walk_at "sq"), ?_⟩⟩
  | refine ⟨rfl, ?_⟩
  | refine iteT ?_
  | refine iteF ?_
  | refine ⟨_, _, _, _, _, rfl, (by assumption), (by assumption), (by assumption), (by assumption), ?_⟩
  | refine Or.inl ⟨_, rfl, ?_⟩
  | refine ⟨_, _, rfl, (by walk_at "side"), ?_⟩
  | refine ⟨_, _, rfl, ?_⟩)
local macro_rules | `(tactic| walk_at "fld") => `(tactic| skip)
local macro_rules | `(tactic| walk_at "s") => `(tactic| repeat walk_at "1")
local macro_rules | `(tactic| walk_at "size") => `(tactic| first | exact Nat.le_of_ble_eq_true rfl | (simp only [List.length_map, List.length_append, List.length_cons, List.length_nil]; omega))
local macro_rules | `(tactic| walk_at "new") => `(tactic| (first | refine ⟨(by walk_at "size"), fun p hp => ?_⟩ | refine fun p hp => ?_); (generalize hq : upd _ p _ = H1); (obtain ⟨s, e⟩ := new_facts hp hq); clear hq)

theorem lk_first (pf pa : Addr) (m : Int) : (rowF pf pa m).lookup ("first" : Str) = some (.ref pf) := rfl
theorem lk_again (pf pa : Addr) (m : Int) : (rowF pf pa m).lookup ("again" : Str) = some (.ref pa) := rfl
theorem lk_more (pf pa : Addr) (m : Int) : (rowF pf pa m).lookup ("more" : Str) = some (.int m) := rfl
/-- what is asked of a row's parts -/
structure Parts (f a : List (Option Int)) (m : Int) : Prop where
  ne : a ≠ []
  lf : f.length < 500
  la : a.length < 500
  m0 : 0 ≤ m
  m1 : m < 2 ^ 30
def gt (xs : List (Option Int)) (i : Nat) : Option Int := (xs[i]?).join
/-- the n-th time -/
def tmR (f a : List (Option Int)) (m : Int) (n : Nat) : Option Int :=
  if n < f.length then gt f n else later1 (((n - f.length) / a.length : Nat) * m) (gt a ((n - f.length) % a.length))
theorem gt_of {xs : List (Option Int)} {i : Nat} (h : i < xs.length) : (xs.map ov)[i]? = some (ov (gt xs i)) := by
  rw [List.getElem?_map]
  unfold gt
  rw [List.getElem?_eq_getElem h]
  rfl
section
variable {P : Program} {w : World} {K : PySem.W.Frag} {mg : Str → Option Value} {base : Heap} {C : Addr}
abbrev s_is_empty : Stmt := topS 25
theorem sc_is_empty : FnScope ["row"] ["row"] (defScope s_is_empty) := ⟨rfl, rfl, rfl, by decide +kernel, rfl, by decide +kernel, by decide +kernel⟩
def spIsEmpty (C : Addr) : Sp := fun vs H Q _ => ∃ (p : Addr) (f a : List (Option Int)) (m : Int), vs = [.ref p] ∧ RowAt C H p f a m ∧ a ≠ [] ∧ Q (.bl (gt a 0).isNone) H
theorem ok_is_empty (D : Df K mg "is_empty" s_is_empty ["row"]) (R : RowCls K mg C) : Own P w K mg base "is_empty" 1 ["row"] (spIsEmpty C) := by
  refine D.own sc_is_empty (fun vs H Q E h => ?_) (fun fa cdv A outer s H vs Q E hr h => ?_)
  · obtain ⟨_, _, _, _, rfl, _⟩ := h
    rfl
  · obtain ⟨p, f, a, m, rfl, ⟨dx, pf, pa, h1, h2, h3⟩, ne, k⟩ := h
    have cl := R.cl
    have nA := R.nA
    have hl := lk_again pf pa m
    have h0 : atI (a.map ov) 0 = some (ov (gt a 0)) := atI_nat (j := 0) (gt_of (List.length_pos_iff.mpr ne))
    refine ⟨_, (pss_one (ps_ret (pe_cmpR op_isN (pe_ix ix_tup (pe_fld (pv 0) rfl) pe_int (fun _ _ => rfl)) pe_non (nomark _)))), ?_⟩
    walk_at "s"
    rw [ov_non]
    exact k
abbrev s_in_lowest_terms : Stmt := topS 11
theorem sc_in_lowest_terms : FnScope ["top", "bottom", "shared"] ["top", "bottom"] (defScope s_in_lowest_terms) := ⟨rfl, rfl, rfl, by decide +kernel, rfl, by decide +kernel, by decide +kernel⟩
/-- the value of a fraction -/
def lowN (i j : Int) : Int := i / (Nat.gcd i.natAbs j.natAbs : Nat)
def lowD (i j : Int) : Int := j / (Nat.gcd i.natAbs j.natAbs : Nat)
def spLow : Sp := fun vs H Q _ => ∃ i j : Int, vs = [.int i, .int j] ∧ 0 < j ∧ j < 1073741824 ∧ ∀ H' p, Same H H' → H p = none → H' p = some (.tup [.int (lowN i j), .int (lowD i j)]) → Q (.ref p) H'
theorem ok_low (D : Df K mg "in_lowest_terms" s_in_lowest_terms ["top", "bottom"]) (g : mg "gcd" = some (.builtin "math.gcd")) : Own P w K mg base "in_lowest_terms" 1 ["top", "bottom"] spLow := by
  refine D.own sc_in_lowest_terms (fun vs H Q E h => ?_) (fun fa cdv A outer s H vs Q E hr h => ?_)
  · obtain ⟨_, _, rfl, _⟩ := h
    rfl
  · obtain ⟨i, j, rfl, j0, j1, k⟩ := h
    refine ⟨_, (pss_cons (ps_set (i := 2) sc_in_lowest_terms.nd rfl (Or.inl rfl) (pe_callBfun cr_gcd (by rfl) g (pa_cons (pv 0) (pa_cons (pv 1) pa_nil))))
  (pss_one (ps_ret (pe_tup (pa_cons (pe_op op_fdiv (pv 0) (pv 2)) (pa_cons (pe_op op_fdiv (pv 1) (pv 2)) pa_nil)))))), ?_⟩
    have g0 : 0 < Nat.gcd i.natAbs j.natAbs := Nat.gcd_pos_of_pos_right _ (by omega)
    have g1 : Nat.gcd i.natAbs j.natAbs ≤ j.natAbs := Nat.gcd_le_right _ (by omega)
    walk_at "s"
    walk_at "new"
    rename_i p1 n1 H1 s1 e1
    walk_at "s"
    exact k _ _ s1 n1 e1
abbrev s_Row_rate : Stmt := inClass (topS 14) 2
theorem sc_Row_rate : FnScope ["self"] ["self"] (defScope s_Row_rate) := ⟨rfl, rfl, rfl, by decide +kernel, rfl, by decide +kernel, by decide +kernel⟩
def spRate (C : Addr) : Sp := fun vs H Q _ => ∃ (p : Addr) (f a : List (Option Int)) (m : Int), vs = [.ref p] ∧ RowAt C H p f a m ∧ Parts f a m ∧ ∀ H' q, Same H H' → H q = none → H' q = some (.tup [.int (lowN m a.length), .int (lowD m a.length)]) → Q (.ref q) H'
theorem ok_rate {f1 : Addr} {fd : FuncData} (F : Fun K "rate" "Row.rate" s_Row_rate f1 fd) (R : RowCls K mg C) (T : Txt mg) (o_in_lowest_terms : Own P w K mg base "in_lowest_terms" 1 ["top", "bottom"] spLow) : FnOk P w K mg base CX0 2 f1 fd ["self"] (spRate C) := by
  refine F.ok sc_Row_rate (fun vs H Q E h => ?_) (fun cdv A outer s H vs Q E hr h => ?_)
  · obtain ⟨_, _, _, _, rfl, _⟩ := h
    rfl
  · obtain ⟨p, f, a, m, rfl, ⟨dx, pf, pa, h1, h2, h3⟩, ok, k⟩ := h
    have cl := R.cl
    have nA := R.nA
    have nM := R.nM
    have hl := lk_again pf pa m
    have hl2 := lk_more pf pa m
    have l0 := List.length_pos_iff.mpr ok.ne
    have l1 := ok.la
    refine ⟨_, (pss_one (ps_ret (pe_own o_in_lowest_terms (hr.mono (by decide)) (pa_cons (pe_fld (pv 0) rfl) (pa_cons (pe_callB call_len_seq (by rfl) T.len PySem.boot_len (pa_cons (pe_fld (pv 0) rfl) pa_nil)) pa_nil))))), ?_⟩
    walk_at "s"
    rw [List.length_map]
    exact ⟨by omega, by omega, k⟩
abbrev s_Row_time : Stmt := inClass (topS 14) 3
theorem sc_Row_time : FnScope ["self", "n", "turns", "at", "time"] ["self", "n"] (defScope s_Row_time) := ⟨rfl, rfl, rfl, by decide +kernel, rfl, by decide +kernel, by decide +kernel⟩
def spTime (C : Addr) : Sp := fun vs H Q _ => ∃ (p : Addr) (f a : List (Option Int)) (m : Int) (n : Nat), vs = [.ref p, .int n] ∧ RowAt C H p f a m ∧ Parts f a m ∧ ∀ H', Same H H' → Q (ov (tmR f a m n)) H'
theorem ok_time {f1 : Addr} {fd : FuncData} (F : Fun K "time" "Row.time" s_Row_time f1 fd) (R : RowCls K mg C) (T : Txt mg) : FnOk P w K mg base CX0 1 f1 fd ["self", "n"] (spTime C) := by
  refine F.ok sc_Row_time (fun vs H Q E h => ?_) (fun cdv A outer s H vs Q E hr h => ?_)
  · obtain ⟨_, _, _, _, _, rfl, _⟩ := h
    rfl
  · obtain ⟨p, f, a, m, n, rfl, ⟨dx, pf, pa, h1, h2, h3⟩, ok, k⟩ := h
    have cl := R.cl
    have nF := R.nF
    have nA := R.nA
    have nM := R.nM
    have hl := lk_again pf pa m
    have hl2 := lk_more pf pa m
    have hl3 := lk_first pf pa m
    have l0 := List.length_pos_iff.mpr ok.ne
    have l1 := ok.la
    have m0 := ok.m0
    have m1 := ok.m1
    refine ⟨_, (pss_cons (ps_if (pt_cmpR op_lt (pv 1) (pe_callB call_len_seq (by rfl) T.len PySem.boot_len (pa_cons (pe_fld (pv 0) rfl) pa_nil)) (nomark _))
    (pss_one (ps_ret (pe_ix ix_tup (pe_fld (pv 0) rfl) (pv 1) (fun _ _ => rfl))))
    pss_nil)
  (pss_cons (ps_asg (pe_callB call_divmod (by rfl) T.divmod (by decide +kernel) (pa_cons (pe_op op_sub (pv 1) (pe_callB call_len_seq (by rfl) T.len PySem.boot_len (pa_cons (pe_fld (pv 0) rfl) pa_nil))) (pa_cons (pe_callB call_len_seq (by rfl) T.len PySem.boot_len (pa_cons (pe_fld (pv 0) rfl) pa_nil)) pa_nil))) (pg_tup (by rfl) (pgs_cons (pg_name (i := 2) sc_Row_time.nd rfl (Or.inl rfl)) (pgs_cons (pg_name (i := 3) sc_Row_time.nd rfl (Or.inl rfl)) pgs_nil))))
  (pss_cons (ps_set (i := 4) sc_Row_time.nd rfl (Or.inl rfl) (pe_ix ix_tup (pe_fld (pv 0) rfl) (pv 3) (fun _ _ => rfl)))
  (pss_one (ps_ret (pe_ifExp (pt_cmpR op_isN (pv 4) pe_non (nomark _)) pe_non (pe_op op_add (pv 4) (pe_op op_mul (pv 2) (pe_fld (pv 0) rfl))))))))), ?_⟩
    walk_at "s"
    rw [List.length_map]
    refine ite2 (fun c => ?_) (fun c => ?_)
    · have c' : n < f.length := by
        have := of_decide_eq_true c
        omega
      have h0 : atI (f.map ov) (n : Int) = some (ov (gt f n)) := atI_nat (gt_of c')
      walk_at "s"
      have e : tmR f a m n = gt f n := if_pos c'
      rw [← e]
      exact k _ (Same.refl _)
    · have c' : ¬ n < f.length := fun q => c (decide_eq_true (by omega))
      walk_at "s"
      rw [List.length_map, List.length_map]
      refine ⟨⟨by omega, by omega⟩, ?_⟩
      walk_at "new"
      rename_i p1 n1 H1 s1 e1
      walk_at "s"
      have h1' := s1 _ _ h1
      have h2' := s1 _ _ h2
      have h3' := s1 _ _ h3
      have en : (n : Int) - (f.length : Int) = ((n - f.length : Nat) : Int) := by omega
      have em : ((n : Int) - (f.length : Int)) % (a.length : Int) = (((n - f.length) % a.length : Nat) : Int) := by rw [en]; rfl
      have ed : ((n : Int) - (f.length : Int)) / (a.length : Int) = (((n - f.length) / a.length : Nat) : Int) := by rw [en]; rfl
      have lt : (n - f.length) % a.length < a.length := Nat.mod_lt _ l0
      walk_at "s"
      refine ⟨_, _, _, _, rfl, rfl, SqT.of h3', at_of em (gt_of lt), ?_⟩
      walk_at "s"
      have et : tmR f a m n = later1 (((n - f.length) / a.length : Nat) * m) (gt a ((n - f.length) % a.length)) := if_neg c'
      have k' := k _ s1
      rw [et] at k'
      cases hg : gt a ((n - f.length) % a.length) with
      | none =>
        rw [hg] at k'
        walk_at "s"
        exact k'
      | some x =>
        rw [hg] at k'
        walk_at "s"
        show Q (.int (x + (((n : Int) - (f.length : Int)) / (a.length : Int)) * m)) H1
        rw [ed]
        exact k'
end
end My

namespace My
open PySem PySem.Spec PyProof.Rows L2
local macro_rules | `(tactic| walk_at "side") => `(tactic| first | (dsimp only; omega) | exact ⟨by omega, by omega⟩ | exact Or.inl ⟨by omega, by omega⟩ | exact Or.inr ⟨by omega, by omega⟩ | decide)
local macro_rules | `(tactic| walk_at "sq") => `(tactic| first | assumption | exact SqL.of (by assumption) | exact SqT.of (by assumption) | (refine L2.Same.seq (by assumption) ?_; walk_at "sq") | (refine L2.Same.seqT (by assumption) ?_; walk_at "sq") | exact Or.inl (by walk_at "sq") | exact Or.inr (by walk_at "sq"))
local macro_rules | `(tactic| walk_at "1") => `(tactic| first
  | refine ⟨_, rfl, iteT ?_⟩
  | refine ⟨_, rfl, iteF ?_⟩
  | refine ⟨_, rfl, ?_⟩
  | refine ⟨_, _, rfl, rfl, (by walk_at "side"), ?_⟩
  | refine ⟨_, _, rfl, rfl, ?_⟩
  | refine ⟨_, _, _, _, true, rfl, .ty _, .base (.int _), kit_ty (a := "int") (by decide +kernel), ?_⟩
  | refine ⟨_, _, _, _, false, rfl, .ty _, .base (.int _), kit_ty (a := "int") (by decide +kernel), ?_⟩
  | refine ⟨_, _, rfl, (by walk_at "sq"), ?_⟩
  | refine ⟨_, _, _, _, rfl, rfl, (by walk_at "sq"), (by first | rfl | assumption), ?_⟩
  | refine Or.inl ⟨_, _, _, _, rfl, rfl, (by walk_at "sq"), (by first | rfl | assumption), ?_⟩
  | refine Or.inr (Or.inl ⟨_, _, _, _, rfl, rfl, (by walk_at "sq"), (by first | rfl | assumption), ?_⟩)
  | refine ⟨_, _, rfl, Or.inl ⟨(by walk_at "sq"), ?_⟩⟩
  | refine ⟨rfl, ?_⟩
  | refine iteT ?_
  | refine iteF ?_
  | refine ⟨_, _, _, _, _, rfl, (by assumption), (by assumption), (by assumption), (by assumption), ?_⟩
  | refine Or.inl ⟨_, rfl, ?_⟩
  | refine ⟨_, _, rfl, (by walk_at "side"), ?_⟩
  | refine ⟨_, _, rfl, ?_⟩)
local macro_rules | `(tactic| walk_at "fld") => `(tactic| skip)
local macro_rules | `(tactic| walk_at "s") => `(tactic| repeat walk_at "1")
local macro_rules | `(tactic| walk_at "size") => `(tactic| first | exact Nat.le_of_ble_eq_true rfl | (simp only [List.length_map, List.length_append, List.length_cons, List.length_nil]; omega))
local macro_rules | `(tactic| walk_at "new") => `(tactic| (first | refine ⟨(by walk_at "size"), fun p hp => ?_⟩ | refine fun p hp => ?_); (generalize hq : upd _ p _ = H1); (obtain ⟨s, e⟩ := new_facts hp hq); clear hq)

def upTo (t : Int) : Option Int → Bool
  | none => true
  | some x => decide (x ≤ t)
/-- how many goings are at a time at most, or nothing -/
def cntR (f a : List (Option Int)) (m t : Int) : Option Int :=
  match gt a 0 with
  | none => none
  | some lo => if m = 0 ∧ lo ≤ t then none
    else if t < lo then some ((f.filter (upTo t)).length : Int)
    else some ((f.length : Int) + (t - lo) / m * (a.length : Int) + ((a.filter (upTo (lo + (t - lo) % m))).length : Int))
theorem take_succ_filter {xs : List (Option Int)} {i : Nat} {x : Option Int} (p : Option Int → Bool) (h : xs[i]? = some x) : (xs.take (i + 1)).filter p = if p x = true then (xs.take i).filter p ++ [x] else (xs.take i).filter p := by
  rw [List.take_add_one, h, List.filter_append]
  by_cases e : p x = true
  · rw [if_pos e]
    congr 1
    simp [e]
  · rw [if_neg e]
    simp [e]
section
variable {P : Program} {w : World} {K : PySem.W.Frag} {mg : Str → Option Value} {base : Heap} {C : Addr}
abbrev s_Row_count : Stmt := inClass (topS 14) 4
theorem sc_Row_count : FnScope ["self", "time", "turns", "rest", "begun", "thing"] ["self", "time"] (defScope s_Row_count) := ⟨rfl, rfl, rfl, by decide +kernel, rfl, by decide +kernel, by decide +kernel⟩
def spCount (C : Addr) : Sp := fun vs H Q _ => ∃ (p : Addr) (f a : List (Option Int)) (m t : Int), vs = [.ref p, .int t] ∧ RowAt C H p f a m ∧ Parts f a m ∧ (gt a 0 ≠ none → ∀ x ∈ a, x ≠ none) ∧ ∀ H', Same H H' → Q (ov (cntR f a m t)) H'
theorem ok_count {f1 : Addr} {fd : FuncData} (F : Fun K "count" "Row.count" s_Row_count f1 fd) (R : RowCls K mg C) (T : Txt mg) (o_is_empty : Own P w K mg base "is_empty" 1 ["row"] (spIsEmpty C)) : FnOk P w K mg base CX0 2 f1 fd ["self", "time"] (spCount C) := by
  refine F.ok sc_Row_count (fun vs H Q E h => ?_) (fun cdv A outer s H vs Q E hr h => ?_)
  · obtain ⟨_, _, _, _, _, rfl, _⟩ := h
    rfl
  · obtain ⟨p, f, a, m, t, rfl, hR, ok, hall, k⟩ := h
    obtain ⟨dx, pf, pa, h1, h2, h3⟩ := id hR
    have h1000 : 1000 < sizeLine := small1000 (Nat.le_refl _)
    have cl := R.cl
    have nF := R.nF
    have nA := R.nA
    have nM := R.nM
    have hl := lk_again pf pa m
    have hl2 := lk_more pf pa m
    have hl3 := lk_first pf pa m
    have l0 := List.length_pos_iff.mpr ok.ne
    have l1 := ok.la
    have l2 := ok.lf
    have m0 := ok.m0
    have m1 := ok.m1
    have h0 : atI (a.map ov) 0 = some (ov (gt a 0)) := atI_nat (j := 0) (gt_of l0)
    refine ⟨_, (C8.pss_cut (ps_if (PW.pt (pw_or (pt_val (pe_own o_is_empty (hr.mono (by decide)) (pa_cons (pv 0) pa_nil))) (pw_or1 (PW.pt (pw_and (pt_cmpR op_eq (pe_fld (pv 0) rfl) pe_int (nomark _)) (pw_and1 (pt_cmpR op_ge (pv 1) (pe_ix ix_tup (pe_fld (pv 0) rfl) pe_int (fun _ _ => rfl)) (nomark _))))))))
    (pss_one (ps_ret pe_non))
    pss_nil)
  (pss_cons (ps_if (pt_cmpR op_lt (pv 1) (pe_ix ix_tup (pe_fld (pv 0) rfl) pe_int (fun _ _ => rfl)) (nomark _))
    (pss_one (ps_ret (pe_callB call_len_seq (by rfl) T.len PySem.boot_len (pa_cons (pe_lc (own := [("thing", 5)]) (g := gName 5) (tt := tOr (tTest (tOp _ (tVar 5) (tC .non))) (tTest (tOp _ (tVar 5) (tVar 1)))) rfl sc_Row_count.nd (pi_tup (pe_fld (pv 0) rfl)) (blkOk_by (own := [("thing", 5)]) (N := ["self", "time", "turns", "rest", "begun", "thing"]) (sc := defScope s_Row_count) (by decide +kernel)) (fun _ _ _ _ _ => (pg_name (i := 5) sc_Row_count.nd rfl (Or.inl rfl))) (fun _ _ _ _ _ => (pts_one (PW.pt (pw_or (pt_cmpR op_isN (pv 5) pe_non (nomark _)) (pw_or1 (pt_cmpR op_le (pv 5) (pv 1) (nomark _))))))) (fun _ _ _ _ _ => (pv 5))) pa_nil))))
    pss_nil)
  (pss_cons (ps_asg (pe_callB call_divmod (by rfl) T.divmod (by decide +kernel) (pa_cons (pe_op op_sub (pv 1) (pe_ix ix_tup (pe_fld (pv 0) rfl) pe_int (fun _ _ => rfl))) (pa_cons (pe_fld (pv 0) rfl) pa_nil))) (pg_tup (by rfl) (pgs_cons (pg_name (i := 2) sc_Row_count.nd rfl (Or.inl rfl)) (pgs_cons (pg_name (i := 3) sc_Row_count.nd rfl (Or.inr rfl)) pgs_nil))))
  (pss_cons (ps_set (i := 4) sc_Row_count.nd rfl (Or.inl rfl) (pe_callB call_len_seq (by rfl) T.len PySem.boot_len (pa_cons (pe_lc (own := [("thing", 5)]) (g := gName 5) (tt := tTest (tOp _ (tVar 5) (tOp _ (tOp (rIxT K) (tFld K (tVar 0) "again") (tC (.int 0))) (tVar 3)))) rfl sc_Row_count.nd (pi_tup (pe_fld (pv 0) rfl)) (blkOk_by (own := [("thing", 5)]) (N := ["self", "time", "turns", "rest", "begun", "thing"]) (sc := defScope s_Row_count) (by decide +kernel)) (fun _ _ _ _ _ => (pg_name (i := 5) sc_Row_count.nd rfl (Or.inl rfl))) (fun _ _ _ _ _ => (pts_one (pt_cmpR op_le (pv 5) (pe_op op_add (pe_ix ix_tup (pe_fld (pv 0) rfl) pe_int (fun _ _ => rfl)) (pv 3)) (nomark _)))) (fun _ _ _ _ _ => (pv 5))) pa_nil)))
  (pss_one (ps_ret (pe_op op_add (pe_op op_add (pe_callB call_len_seq (by rfl) T.len PySem.boot_len (pa_cons (pe_fld (pv 0) rfl) pa_nil)) (pe_op op_mul (pv 2) (pe_callB call_len_seq (by rfl) T.len PySem.boot_len (pa_cons (pe_fld (pv 0) rfl) pa_nil)))) (pv 4)))))))), ?_⟩
    refine ⟨fun σ' H' => σ' = [some (.ref p), some (.int t), none, none, none, none] ∧ H' = H ∧ ∃ lo, gt a 0 = some lo ∧ ¬ (m = 0 ∧ lo ≤ t), ?_, ?_⟩
    · walk_at "s"
      refine ⟨p, f, a, m, rfl, hR, ok.ne, ?_⟩
      cases hlo : gt a 0 with
      | none =>
        have e : cntR f a m t = none := by unfold cntR; rw [hlo]
        have k' := k _ (Same.refl _)
        rw [e] at k'
        walk_at "s"
        exact k'
      | some lo =>
        rw [hlo] at h0
        walk_at "s"
        refine ite2 (fun c1 => ?_) (fun c1 => ?_)
        · have c1' : m = 0 := V.int.inj (of_decide_eq_true c1)
          walk_at "s"
          refine ite2 (fun c2 => ?_) (fun c2 => ?_)
          · have c2' : lo ≤ t := of_decide_eq_true c2
            have e : cntR f a m t = none := by unfold cntR; rw [hlo]; exact if_pos ⟨c1', c2'⟩
            have k' := k _ (Same.refl _)
            rw [e] at k'
            walk_at "s"
            exact k'
          · walk_at "s"
            exact fun q => c2 (decide_eq_true q.2)
        · walk_at "s"
          exact fun q => c1 (decide_eq_true (congrArg V.int q.1))
    · rintro σ' H' ⟨rfl, rfl, lo, hlo, hno⟩
      rw [hlo] at h0
      have hal := hall (by rw [hlo]; exact fun z => nomatch z)
      walk_at "s"
      refine ite2 (fun c => ?_) (fun c => ?_)
      · have c' : t < lo := of_decide_eq_true c
        have e : cntR f a m t = some ((f.filter (upTo t)).length : Int) := by
          unfold cntR
          rw [hlo]
          exact (if_neg hno).trans (if_pos c')
        rw [e] at k
        walk_at "s"
        refine ⟨⟨_, SqT.of h2⟩, fun L nL => lc_seq (seqIt_t (SqT.of h2)) (fun i H'' => Same H' H'' ∧ H'' L = some (.lst (((f.take i).filter (upTo t)).map ov))) ⟨same_upd nL, upd_same⟩ (fun i H'' q => q.1) ?_ ?_⟩
        · rintro i x H'' hi ⟨s1, e1⟩
          obtain ⟨y, hy, rfl⟩ := get_map hi
          have hz : (((f.take i).filter (upTo t)).map ov).length < sizeLine := by
            rw [List.length_map]
            have := List.length_filter_le (upTo t) (f.take i)
            rw [List.length_take] at this
            omega
          have fin1 : upTo t y = true → Same H' (upd H'' L (.lst ((((f.take i).filter (upTo t)).map ov) ++ [ov y]))) ∧ (upd H'' L (.lst ((((f.take i).filter (upTo t)).map ov) ++ [ov y]))) L = some (.lst (((f.take (i + 1)).filter (upTo t)).map ov)) := fun h => by
            refine ⟨s1.upd1 nL, ?_⟩
            rw [upd_same, take_succ_filter _ hy, if_pos h, List.map_append]
            rfl
          have fin2 : upTo t y = false → Same H' H'' ∧ H'' L = some (.lst (((f.take (i + 1)).filter (upTo t)).map ov)) := fun h => by
            refine ⟨s1, ?_⟩
            rw [take_succ_filter _ hy, h]
            exact e1
          cases y with
          | none =>
            walk_at "s"
            exact ⟨_, e1, hz, fin1 rfl⟩
          | some y =>
            walk_at "s"
            refine ite2 (fun c3 => ?_) (fun c3 => ?_)
            · walk_at "s"
              exact ⟨_, e1, hz, fin1 c3⟩
            · walk_at "s"
              exact fin2 (Bool.eq_false_iff.mpr c3)
        · rintro H'' ⟨s1, e1⟩
          rw [show (f.map ov).length = f.length by simp, List.take_length] at e1
          walk_at "s"
          have k' := k _ s1
          rw [show ((f.filter (upTo t)).length : Int) = (((f.filter (upTo t)).map ov).length : Int) by rw [List.length_map]] at k'
          exact k'
      · have c' : ¬ t < lo := fun q => c (decide_eq_true q)
        have hm : 0 < m := by omega
        walk_at "s"
        walk_at "new"
        rename_i p1 n1 H1 s1 e1
        have h1' := s1 _ _ h1
        have h2' := s1 _ _ h2
        have h3' := s1 _ _ h3
        have h1000' := h1000
        walk_at "s"
        refine ⟨⟨_, SqT.of h3'⟩, fun L nL => lc_seq (seqIt_t (SqT.of h3')) (fun i H'' => Same H1 H'' ∧ H'' L = some (.lst (((a.take i).filter (upTo (lo + (t - lo) % m))).map ov))) ⟨same_upd nL, upd_same⟩ (fun i H'' q => q.1) ?_ ?_⟩
        · rintro i x H'' hi ⟨s2, e2⟩
          obtain ⟨y, hy, rfl⟩ := get_map hi
          have hz : (((a.take i).filter (upTo (lo + (t - lo) % m))).map ov).length < sizeLine := by
            rw [List.length_map]
            have := List.length_filter_le (upTo (lo + (t - lo) % m)) (a.take i)
            rw [List.length_take] at this
            omega
          have fin1 : upTo (lo + (t - lo) % m) y = true → Same H1 (upd H'' L (.lst ((((a.take i).filter (upTo (lo + (t - lo) % m))).map ov) ++ [ov y]))) ∧ (upd H'' L (.lst ((((a.take i).filter (upTo (lo + (t - lo) % m))).map ov) ++ [ov y]))) L = some (.lst (((a.take (i + 1)).filter (upTo (lo + (t - lo) % m))).map ov)) := fun h => by
            refine ⟨s2.upd1 nL, ?_⟩
            rw [upd_same, take_succ_filter _ hy, if_pos h, List.map_append]
            rfl
          have fin2 : upTo (lo + (t - lo) % m) y = false → Same H1 H'' ∧ H'' L = some (.lst (((a.take (i + 1)).filter (upTo (lo + (t - lo) % m))).map ov)) := fun h => by
            refine ⟨s2, ?_⟩
            rw [take_succ_filter _ hy, h]
            exact e2
          have h1'' := s2 _ _ h1'
          have h3'' := s2 _ _ h3'
          cases y with
          | none => exact absurd rfl (hal none (List.mem_of_getElem? hy))
          | some y =>
            walk_at "s"
            refine ite2 (fun c3 => ?_) (fun c3 => ?_)
            · walk_at "s"
              exact ⟨_, e2, hz, fin1 c3⟩
            · walk_at "s"
              exact fin2 (Bool.eq_false_iff.mpr c3)
        · rintro H'' ⟨s2, e2⟩
          have h1'' := s2 _ _ h1'
          have h2'' := s2 _ _ h2'
          have h3'' := s2 _ _ h3'
          walk_at "s"
          have ela : (a.map ov).length = a.length := List.length_map ..
          refine ⟨Or.inr ⟨by omega, by omega⟩, ?_⟩
          walk_at "s"
          have e : cntR f a m t = some ((f.length : Int) + (t - lo) / m * (a.length : Int) + ((a.filter (upTo (lo + (t - lo) % m))).length : Int)) := by
            unfold cntR
            rw [hlo]
            exact (if_neg hno).trans (if_neg c')
          have k' := k _ (s1.trans s2)
          rw [e] at k'
          show Q (.int (((f.map ov).length : Int) + (t - lo) / m * ((a.map ov).length : Int) + ((((a.take (a.map ov).length).filter (upTo (lo + (t - lo) % m))).map ov).length : Int))) H''
          rw [ela, List.take_length, List.length_map, List.length_map]
          exact k'
end
end My

namespace My
open PySem PySem.Spec PyProof.Rows L2
local macro_rules | `(tactic| walk_at "wp_side") => `(tactic| first | (dsimp only; omega) | exact ⟨by omega, by omega⟩ | exact Or.inl ⟨by omega, by omega⟩ | exact Or.inr ⟨by omega, by omega⟩ | decide)
local macro_rules | `(tactic| walk_at "wp1") => `(tactic| first
  | refine ⟨_, rfl, ?_⟩
  | refine ⟨_, _, rfl, rfl, (by walk_at "wp_side"), ?_⟩
  | refine ⟨_, _, rfl, rfl, ?_⟩
  | refine ⟨_, _, _, _, rfl, rfl, SqL.of (by first | assumption | exact upd_same), rfl, ?_⟩
  | refine ⟨_, _, _, _, rfl, rfl, (by first | assumption | exact upd_same), rfl, ?_⟩
  | refine ⟨_, _, rfl, Or.inl (by assumption), ?_⟩
  | refine Or.inl ⟨_, rfl, ?_⟩)
local macro_rules | `(tactic| walk_at "wps") => `(tactic| repeat walk_at "wp1")
local macro_rules | `(tactic| walk_at "side") => `(tactic| first | (dsimp only; omega) | exact ⟨by omega, by omega⟩ | exact Or.inl ⟨by omega, by omega⟩ | exact Or.inr ⟨by omega, by omega⟩ | decide)
local macro_rules | `(tactic| walk_at "sq") => `(tactic| first | assumption | exact SqL.of (by assumption) | exact SqT.of (by assumption) | (refine L2.Same.seq (by assumption) ?_; walk_at "sq") | (refine L2.Same.seqT (by assumption) ?_; walk_at "sq") | exact Or.inl (by walk_at "sq") | exact Or.inr (by walk_at "sq"))
local macro_rules | `(tactic| walk_at "1") => `(tactic| first
  | refine ⟨_, rfl, iteT ?_⟩
  | refine ⟨_, rfl, iteF ?_⟩
  | refine ⟨_, rfl, ?_⟩
  | refine ⟨_, _, rfl, rfl, (by walk_at "side"), ?_⟩
  | refine ⟨_, _, rfl, rfl, ?_⟩
  | refine ⟨_, _, _, _, true, rfl, .ty _, .base (.int _), kit_ty (a := "int") (by decide +kernel), ?_⟩
  | refine ⟨_, _, _, _, false, rfl, .ty _, .base (.int _), kit_ty (a := "int") (by decide +kernel), ?_⟩
  | refine ⟨_, _, rfl, (by walk_at "sq"), ?_⟩
  | refine ⟨_, _, _, _, rfl, rfl, (by walk_at "sq"), (by first | rfl | assumption), ?_⟩
  | refine Or.inl ⟨_, _, _, _, rfl, rfl, (by walk_at "sq"), (by first | rfl | assumption), ?_⟩
  | refine Or.inr (Or.inl ⟨_, _, _, _, rfl, rfl, (by walk_at "sq"), (by first | rfl | assumption), ?_⟩)
  | refine ⟨_, _, rfl, Or.inl ⟨(by walk_at "sq"), ?_⟩⟩
  | refine ⟨rfl, ?_⟩
  | refine iteT ?_
  | refine iteF ?_
  | refine ⟨_, _, _, _, _, rfl, (by assumption), (by assumption), (by assumption), (by assumption), ?_⟩
  | refine Or.inl ⟨_, rfl, ?_⟩
  | refine ⟨_, _, rfl, (by walk_at "side"), ?_⟩
  | refine ⟨_, _, rfl, ?_⟩)
local macro_rules | `(tactic| walk_at "fld") => `(tactic| skip)
local macro_rules | `(tactic| walk_at "s") => `(tactic| repeat walk_at "1")
local macro_rules | `(tactic| walk_at "size") => `(tactic| first | exact Nat.le_of_ble_eq_true rfl | (simp only [List.length_map, List.length_append, List.length_cons, List.length_nil]; omega))
local macro_rules | `(tactic| walk_at "new") => `(tactic| (first | refine ⟨(by walk_at "size"), fun p hp => ?_⟩ | refine fun p hp => ?_); (generalize hq : upd _ p _ = H1); (obtain ⟨s, e⟩ := new_facts hp hq); clear hq)

/-- a box of draws -/
def BoxAt (H : Hp) (b : Addr) : Prop := ∃ x y z : Int, 0 ≤ x ∧ H b = some (.lst [.int x, .int y, .int z])
/-- all but the box stands -/
def Bx (b : Addr) (H H' : Hp) : Prop := ∀ c o, c ≠ b → H c = some o → H' c = some o
theorem Bx.of {b : Addr} {H H' : Hp} (s : Same H H') : Bx b H H' := fun c o _ e => s c o e
theorem Bx.trans {b : Addr} {H H1 H2 : Hp} (s : Bx b H H1) (t : Bx b H1 H2) : Bx b H H2 := fun c o n e => t c o n (s c o n e)
theorem Bx.upd {b : Addr} {H : Hp} {o : HO} : Bx b H (upd H b o) := fun c x n e => by
  rw [upd_ne n]
  exact e
theorem Bx.same {b : Addr} {H0 H H' : Hp} (s : Bx b H H') (h : Same H0 H) (n : H0 b = none) : Same H0 H' := fun c o e => s c o (ne_of_none e n) (h c o e)
theorem BoxAt.same {b : Addr} {H H' : Hp} (h : BoxAt H b) (s : Same H H') : BoxAt H' b := by
  obtain ⟨x, y, z, h0, h1⟩ := h
  exact ⟨x, y, z, h0, s _ _ h1⟩
theorem BoxAt.ne {b p : Addr} {H : Hp} (h : BoxAt H b) (n : H p = none) : p ≠ b := by
  obtain ⟨x, y, z, h0, h1⟩ := h
  exact (ne_of_none h1 n).symm
def spTake : Sp := fun vs H Q _ => ∃ (b : Addr) (m : Nat), vs = [.ref b, .int m] ∧ 0 < m ∧ m < 1073741824 ∧ BoxAt H b ∧ ∀ (H' : Hp) (n : Nat), n < m → Bx b H H' → BoxAt H' b → Q (.int n) H'
def spBox (K : PySem.W.Frag) : Sp := fun vs H Q _ => ∃ (a : Addr) (ns : List Int) (k : Nat), vs = [.ref a, .int k] ∧ SqL K H a (ns.map V.int) ∧ ns.length ≤ 63 ∧
  ∀ (H' : Hp) (p : Addr), Same H H' → H p = none → BoxAt H' p → Q (.ref p) H'
section
variable {P : Program} {w : World} {K : PySem.W.Frag} {mg : Str → Option Value} {base : Heap} {C : Addr}
abbrev s_law_take : Stmt := topS 28
theorem sc_law_take : FnScope ["box", "many", "digit", "one"] ["box", "many"] (defScope s_law_take) := ⟨rfl, rfl, rfl, by decide +kernel, rfl, by decide +kernel, by decide +kernel⟩
theorem ok_take (D : Df K mg "_law_take" s_law_take ["box", "many"]) (T : Txt mg) : Own P w K mg base "_law_take" 1 ["box", "many"] spTake := by
  refine D.own sc_law_take (fun vs H Q E h => ?_) (fun fa cdv A outer s H vs Q E hr h => ?_)
  · obtain ⟨_, _, rfl, _⟩ := h
    rfl
  · obtain ⟨b, m, rfl, m0, m1, ⟨x, y, z, x0, hb⟩, k⟩ := h
    have h8 : (0:Int) < 8191 ∧ (8191:Int) < 1073741824 := by decide
    have fin : ∀ (i x' y' z' : Int), 0 ≤ i → i < m → 0 ≤ x' → Q (.int i) (upd H b (.lst [.int x', .int y', .int z'])) := fun i x' y' z' i0 i1 hx => by
      have := k (upd H b (.lst [.int x', .int y', .int z'])) i.toNat (by omega) Bx.upd ⟨x', y', z', hx, upd_same⟩
      rw [show ((i.toNat : Nat) : Int) = i by omega] at this
      exact this
    refine ⟨_, (pss_cons (ps_if (pt_cmpR op_gt (pe_ix ix_list (pv 0) pe_int (fun _ _ => rfl)) pe_int (nomark _))
    (pss_cons (ps_set (i := 2) sc_law_take.nd rfl (Or.inl rfl) (pe_op op_mod (pe_callTy call_int1 (by rfl) T.int (by decide +kernel) (pa_cons (pe_ix ix_list (pv 0) pe_int (fun _ _ => rfl)) pa_nil)) (pv 1)))
      (pss_cons (ps_asg (pe_op op_fdiv (pe_ix ix_list (pv 0) pe_int (fun _ _ => rfl)) (pv 1)) (pg_sub (pv 0) pe_int set_list))
      (pss_one (ps_ret (pv 2)))))
    pss_nil)
  (pss_cons (ps_asg (pe_op op_add (pe_ix ix_list (pv 0) pe_int (fun _ _ => rfl)) pe_int) (pg_sub (pv 0) pe_int set_list))
  (pss_cons (ps_set (i := 3) sc_law_take.nd rfl (Or.inl rfl) (pe_op op_mod (pe_callTy call_int1 (by rfl) T.int (by decide +kernel) (pa_cons (pe_op op_mul (pe_op op_add (pe_ix ix_list (pv 0) pe_int (fun _ _ => rfl)) (pe_op op_mul pe_int (pe_ix ix_list (pv 0) pe_int (fun _ _ => rfl)))) pe_int) pa_nil)) pe_int))
  (pss_cons (ps_asg (pe_op op_add (pe_op op_mod (pe_callTy call_int1 (by rfl) T.int (by decide +kernel) (pa_cons (pe_op op_add (pe_op op_mul (pv 3) pe_int) pe_int) pa_nil)) pe_int) pe_int) (pg_sub (pv 0) pe_int set_list))
  (pss_one (ps_ret (pe_op op_mod (pe_callTy call_int1 (by rfl) T.int (by decide +kernel) (pa_cons (pe_op op_fdiv (pe_op op_add (pe_op op_mul (pv 3) pe_int) (pe_ix ix_list (pv 0) pe_int (fun _ _ => rfl))) pe_int) pa_nil)) (pv 1)))))))), ?_⟩
    walk_at "wps"
    refine ite2 (fun c => ?_) (fun c => ?_)
    · have c' : 0 < x := by simpa using c
      walk_at "wps"
      exact fin _ _ _ _ (Int.emod_nonneg _ (by omega)) (Int.emod_lt_of_pos _ (by omega)) (Int.ediv_nonneg x0 (by omega))
    · walk_at "wps"
      rw [upd_upd]
      exact fin _ _ _ _ (Int.emod_nonneg _ (by omega)) (Int.emod_lt_of_pos _ (by omega)) x0
abbrev s_law_box : Stmt := topS 27
theorem sc_law_box : FnScope ["script", "k", "cell", "seed"] ["script", "k"] (defScope s_law_box) := ⟨rfl, rfl, rfl, by decide +kernel, rfl, by decide +kernel, by decide +kernel⟩
theorem ok_box (D : Df K mg "_law_box" s_law_box ["script", "k"]) (T : Txt mg) : Own P w K mg base "_law_box" 1 ["script", "k"] (spBox K) := by
  refine D.own sc_law_box (fun vs H Q E h => ?_) (fun fa cdv A outer s H vs Q E hr h => ?_)
  · obtain ⟨_, _, _, rfl, _⟩ := h
    rfl
  · obtain ⟨a, ns, k, rfl, hS, hlen, kk⟩ := h
    refine ⟨_, (pss_cons (ps_set (i := 2) sc_law_box.nd rfl (Or.inl rfl) (pe_op op_add (pe_op op_mul pe_int (pv 1)) pe_int))
  (C8.pss_cut (ps_if (pt_cmpR op_lt (pv 1) (pe_callB call_len_seq (by rfl) T.len PySem.boot_len (pa_cons (pv 0) pa_nil)) (nomark _))
    (pss_one (ps_set (i := 2) sc_law_box.nd rfl (Or.inl rfl) (pe_callB call_abs (by rfl) T.abs (by decide +kernel) (pa_cons (pe_ix ix_list (pv 0) (pv 1) (fun _ _ => rfl)) pa_nil))))
    (pss_one (ps_if (pt_cmpR op_gt (pe_callB call_len_seq (by rfl) T.len PySem.boot_len (pa_cons (pv 0) pa_nil)) pe_int (nomark _))
        (pss_one (ps_set (i := 2) sc_law_box.nd rfl (Or.inl rfl) (pe_op op_add (pv 2) (pe_op op_mul (pe_op op_mod (pe_callTy call_int1 (by rfl) T.int (by decide +kernel) (pa_cons (pe_callB call_abs (by rfl) T.abs (by decide +kernel) (pa_cons (pe_callTy call_int1 (by rfl) T.int (by decide +kernel) (pa_cons (pe_ix ix_list (pv 0) (pe_op op_mod (pe_callTy call_int1 (by rfl) T.int (by decide +kernel) (pa_cons (pv 1) pa_nil)) (pe_callB call_len_seq (by rfl) T.len PySem.boot_len (pa_cons (pv 0) pa_nil))) (fun _ _ => rfl)) pa_nil)) pa_nil)) pa_nil)) pe_int) pe_int))))
        pss_nil)))
  (pss_cons (ps_set (i := 3) sc_law_box.nd rfl (Or.inl rfl) (pe_op op_add (pe_op op_mod (pe_callTy call_int1 (by rfl) T.int (by decide +kernel) (pa_cons (pe_op op_add (pe_op op_mul (pe_op op_mod (pe_callTy call_int1 (by rfl) T.int (by decide +kernel) (pa_cons (pv 2) pa_nil)) pe_int) pe_int) (pe_op op_mul pe_int (pv 1))) pa_nil)) pe_int) pe_int))
  (pss_one (ps_ret (pe_lst (pa_cons (pe_ix ix_list (pe_lst (pa_cons pe_int (pa_cons (pv 2) pa_nil))) (pe_callTy call_int1 (by rfl) T.int (by decide +kernel) (pa_cons (pe_cmpR op_ge (pv 2) (pe_op op_pow pe_int pe_int) (nomark _)) pa_nil)) (fun _ _ => rfl)) (pa_cons (pv 3) (pa_cons pe_int pa_nil))))))))), ?_⟩
    walk_at "wps"
    refine ⟨fun σ' H' => (∃ c : Int, σ' = [some (.ref a), some (.int (k : Int)), some (.int c), none]) ∧ H' = H, ?_, ?_⟩
    · walk_at "wps"
      have hl : ((ns.map V.int).length : Int) = (ns.length : Int) := by rw [List.length_map]
      refine ite2 (fun c => ?_) (fun c => ?_)
      · have c' : k < ns.length := by
          have c2 : (k : Int) < ((ns.map V.int).length : Int) := by simpa using c
          omega
        walk_at "wps"
        refine ⟨_, _, _, _, rfl, rfl, hS, atI_nat (List.getElem?_eq_getElem (by rw [List.length_map]; exact c')), ?_⟩
        rw [List.getElem_map]
        walk_at "wps"
        exact ⟨⟨_, rfl⟩, rfl⟩
      · walk_at "wps"
        refine ite2 (fun d => ?_) (fun d => ?_)
        · have d' : 0 < ns.length := by
            have d2 : (0 : Int) < ((ns.map V.int).length : Int) := by simpa using d
            omega
          have hm : (k : Int) % ((ns.map V.int).length : Int) = ((k % ns.length : Nat) : Int) := by rw [hl]; simp
          have lt : k % ns.length < (ns.map V.int).length := by rw [List.length_map]; exact Nat.mod_lt _ d'
          walk_at "wps"
          refine ⟨_, _, _, _, rfl, rfl, hS, at_of hm (List.getElem?_eq_getElem lt), ?_⟩
          rw [List.getElem_map]
          walk_at "wps"
          exact ⟨⟨_, rfl⟩, rfl⟩
        · exact ⟨⟨_, rfl⟩, rfl⟩
    · rintro σ' H' ⟨⟨c, rfl⟩, rfl⟩
      walk_at "wps"
      refine ⟨Nat.le_of_ble_eq_true rfl, fun q hq => ?_⟩
      walk_at "wps"
      refine Or.inr ⟨_, rfl, ?_⟩
      have s1 : Same H' (upd H' q (.lst [.int 0, .int c])) := fun b o e => by
        rw [upd_ne (ne_of_none e hq)]
        exact e
      have fin : ∀ x : Int, 0 ≤ x → ∀ y : Int, ∀ p : Addr, upd H' q (.lst [.int 0, .int c]) p = none → Q (.ref p) (upd (upd H' q (.lst [.int 0, .int c])) p (.lst [.int x, .int y, .int 0])) := fun x x0 y p hp =>
        kk _ p (s1.trans fun b o e => by rw [upd_ne (ne_of_none e hp)]; exact e) (s1.free hp) ⟨x, y, 0, x0, upd_same⟩
      by_cases big : (10 : Int) ^ (18 : Int).toNat ≤ c
      · rw [decide_eq_true big]
        refine ⟨_, _, _, _, rfl, rfl, SqL.of upd_same, rfl, ?_⟩
        walk_at "wps"
        exact ⟨Nat.le_of_ble_eq_true rfl, fun p hp => fin c (Int.le_trans (by decide) big) _ p hp⟩
      · rw [decide_eq_false big]
        refine ⟨_, _, _, _, rfl, rfl, SqL.of upd_same, rfl, ?_⟩
        walk_at "wps"
        exact ⟨Nat.le_of_ble_eq_true rfl, fun p hp => fin 0 (Int.le_refl _) _ p hp⟩
abbrev s_law_pick : Stmt := topS 29
theorem sc_law_pick : FnScope ["box", "some"] ["box", "some"] (defScope s_law_pick) := ⟨rfl, rfl, rfl, by decide +kernel, rfl, by decide +kernel, by decide +kernel⟩
def spPick : Sp := fun vs H Q _ => ∃ (b a : Addr) (xs : List V), vs = [.ref b, .ref a] ∧ BoxAt H b ∧ a ≠ b ∧ H a = some (.lst xs) ∧ 0 < xs.length ∧ xs.length < 1000 ∧ ∀ (H' : Hp) (x : V), x ∈ xs → Bx b H H' → BoxAt H' b → Q x H'
theorem ok_pick (D : Df K mg "_law_pick" s_law_pick ["box", "some"]) (T : Txt mg) (o_law_take : Own P w K mg base "_law_take" 1 ["box", "many"] spTake) : Own P w K mg base "_law_pick" 2 ["box", "some"] spPick := by
  refine D.own sc_law_pick (fun vs H Q E h => ?_) (fun fa cdv A outer s H vs Q E hr h => ?_)
  · obtain ⟨_, _, _, rfl, _⟩ := h
    rfl
  · obtain ⟨b, a, xs, rfl, hb, nab, ha, l0, l1, k⟩ := h
    refine ⟨_, (pss_one (ps_ret (pe_ix ix_list (pv 1) (pe_own o_law_take (hr.mono (by decide)) (pa_cons (pv 0) (pa_cons (pe_callB call_len_seq (by rfl) T.len PySem.boot_len (pa_cons (pv 1) pa_nil)) pa_nil))) (fun _ _ => rfl)))), ?_⟩
    walk_at "s"
    refine ⟨by omega, hb, fun H1 n hn s1 b1 => ?_⟩
    have ha1 := s1 _ _ nab ha
    have hx : xs[n]? = some xs[n] := List.getElem?_eq_getElem hn
    refine ⟨_, _, _, _, rfl, rfl, SqL.of ha1, atI_nat hx, ?_⟩
    exact k _ _ (List.getElem_mem hn) s1 b1
abbrev s_law_divisor : Stmt := topS 35
theorem sc_law_divisor : FnScope ["one", "other"] ["one", "other"] (defScope s_law_divisor) := ⟨rfl, rfl, rfl, by decide +kernel, rfl, by decide +kernel, by decide +kernel⟩
def spDiv : Sp := fun vs H Q _ => ∃ (i j : Nat), vs = [.int i, .int j] ∧ Q (.int (Nat.gcd i j : Nat)) H
theorem ok_div (D : Df K mg "_law_divisor" s_law_divisor ["one", "other"]) (T : Txt mg) : Own P w K mg base "_law_divisor" 1 ["one", "other"] spDiv := by
  refine D.own sc_law_divisor (fun vs H Q E h => ?_) (fun fa cdv A outer s H vs Q E hr h => ?_)
  · obtain ⟨_, _, rfl, _⟩ := h
    rfl
  · obtain ⟨i, j, rfl, k⟩ := h
    refine ⟨_, (pss_cons (ps_while PassesOwn.never (pt_cmpR op_ne (pv 1) pe_int (nomark _))
    (pss_one (ps_par (i := 0) (j := 1) (by rfl) sc_law_divisor.nd rfl rfl (by decide) rfl rfl (pa_cons (pv 1) (pa_cons (pe_op op_modN (pe_callTy call_int1 (by rfl) T.int (by decide +kernel) (pa_cons (pv 0) pa_nil)) (pv 1)) pa_nil)) (by rfl))))
  (pss_one (ps_ret (pv 0)))), ?_⟩
    refine ⟨fun m σ H' => ∃ i' : Nat, σ = [some (.int (i' : Nat)), some (.int (m : Nat))] ∧ H' = H ∧ Nat.gcd i' m = Nat.gcd i j, ⟨j, i, rfl, rfl, rfl⟩, ?_⟩
    rintro m σ H' ⟨i', rfl, rfl, e⟩
    cases m with
    | zero =>
      walk_at "s"
      rw [← e, Nat.gcd_zero_right] at k
      exact k
    | succ m =>
      walk_at "s"
      refine ⟨fun σ' H'' => σ' = [some (.int ((m + 1 : Nat) : Int)), some (.int ((i' % (m + 1) : Nat) : Int))] ∧ H'' = H', ?_, ?_⟩
      · rintro σ' H'' ⟨rfl, rfl⟩
        exact ⟨_, Nat.mod_lt _ (Nat.succ_pos m), _, rfl, rfl, by rw [← e, Nat.gcd_comm i' (m + 1), Nat.gcd_rec (m + 1) i', Nat.gcd_comm]⟩
      · have ef : Int.fmod (i' : Int) ((m + 1 : Nat) : Int) = ((i' % (m + 1) : Nat) : Int) := by
          rw [Int.fmod_eq_emod_of_nonneg _ (by omega)]
          rfl
        have nz : ((m + 1 : Nat) : Int) ≠ 0 := by omega
        walk_at "s"
        refine ⟨?_, rfl⟩
        show [some (V.int ((m + 1 : Nat) : Int)), some (V.int (Int.fmod (i' : Int) ((m + 1 : Nat) : Int)))] = _
        rw [ef]
end
end My

namespace My
open PySem PySem.Spec PyProof.Rows L2
local macro_rules | `(tactic| walk_at "side") => `(tactic| first | (dsimp only; omega) | exact ⟨by omega, by omega⟩ | exact Or.inl ⟨by omega, by omega⟩ | exact Or.inr ⟨by omega, by omega⟩ | decide)
local macro_rules | `(tactic| walk_at "sq") => `(tactic| first | assumption | exact SqL.of (by assumption) | exact SqT.of (by assumption) | (refine L2.Same.seq (by assumption) ?_; walk_at "sq") | (refine L2.Same.seqT (by assumption) ?_; walk_at "sq") | exact Or.inl (by walk_at "sq") | exact Or.inr (by walk_at "sq"))
local macro_rules | `(tactic| walk_at "1") => `(tactic| first
  | refine ⟨_, rfl, iteT ?_⟩
  | refine ⟨_, rfl, iteF ?_⟩
  | refine ⟨_, rfl, ?_⟩
  | refine ⟨_, _, rfl, rfl, (by walk_at "side"), ?_⟩
  | refine ⟨_, _, rfl, rfl, ?_⟩
  | refine ⟨_, _, _, _, true, rfl, .ty _, .base (.int _), kit_ty (a := "int") (by decide +kernel), ?_⟩
  | refine ⟨_, _, _, _, false, rfl, .ty _, .base (.int _), kit_ty (a := "int") (by decide +kernel), ?_⟩
  | refine ⟨_, _, rfl, (by walk_at "sq"), ?_⟩
  | refine ⟨_, _, _, _, rfl, rfl, (by walk_at "sq"), (by first | rfl | assumption), ?_⟩
  | refine Or.inl ⟨_, _, _, _, rfl, rfl, (by walk_at "sq"), (by first | rfl | assumption), ?_⟩
  | refine Or.inr (Or.inl ⟨_, _, _, _, rfl, rfl, (by walk_at "sq"), (by first | rfl | assumption), ?_⟩)
  | refine ⟨_, _, rfl, Or.inl ⟨(by walk_at "sq"), ?_⟩⟩
  | refine ⟨rfl, ?_⟩
  | refine iteT ?_
  | refine iteF ?_
  | refine ⟨_, _, _, _, _, rfl, (by assumption), (by assumption), (by assumption), (by assumption), ?_⟩
  | refine Or.inl ⟨_, rfl, ?_⟩
  | refine ⟨_, _, rfl, (by walk_at "side"), ?_⟩
  | refine ⟨_, _, rfl, ?_⟩)
local macro_rules | `(tactic| walk_at "fld") => `(tactic| skip)
local macro_rules | `(tactic| walk_at "s") => `(tactic| repeat walk_at "1")
local macro_rules | `(tactic| walk_at "size") => `(tactic| first | exact Nat.le_of_ble_eq_true rfl | (simp only [List.length_map, List.length_append, List.length_cons, List.length_nil]; omega))
local macro_rules | `(tactic| walk_at "new") => `(tactic| (first | refine ⟨(by walk_at "size"), fun p hp => ?_⟩ | refine fun p hp => ?_); (generalize hq : upd _ p _ = H1); (obtain ⟨s, e⟩ := new_facts hp hq); clear hq)

/-- a told row: its three things, as lists and a number -/
def ToldAt (H : Hp) (p : Addr) (f a : List (Option Int)) (m : Int) : Prop := ∃ pf pa, H p = some (.tup [.ref pf, .ref pa, .int m]) ∧ H pf = some (.lst (f.map ov)) ∧ H pa = some (.lst (a.map ov))
theorem _root_.L2.Same.told {H H' : Hp} {p : Addr} {f a : List (Option Int)} {m : Int} (s : Same H H') (h : ToldAt H p f a m) : ToldAt H' p f a m := by
  obtain ⟨pf, pa, h1, h2, h3⟩ := h
  exact ⟨pf, pa, s _ _ h1, s _ _ h2, s _ _ h3⟩
section
variable {P : Program} {w : World} {K : PySem.W.Frag} {mg : Str → Option Value} {base : Heap} {C : Addr}
abbrev s_law_time : Stmt := topS 32
theorem sc_law_time : FnScope ["told", "n", "first", "again", "more", "thing"] ["told", "n"] (defScope s_law_time) := ⟨rfl, rfl, rfl, by decide +kernel, rfl, by decide +kernel, by decide +kernel⟩
def spTold : Sp := fun vs H Q _ => ∃ (p : Addr) (f a : List (Option Int)) (m : Int) (n : Nat), vs = [.ref p, .int n] ∧ ToldAt H p f a m ∧ Parts f a m ∧ Q (ov (tmR f a m n)) H
theorem ok_law_time (D : Df K mg "_law_time" s_law_time ["told", "n"]) (T : Txt mg) : Own P w K mg base "_law_time" 1 ["told", "n"] spTold := by
  refine D.own sc_law_time (fun vs H Q E h => ?_) (fun fa cdv A outer s H vs Q E hr h => ?_)
  · obtain ⟨_, _, _, _, _, rfl, _⟩ := h
    rfl
  · obtain ⟨p, f, a, m, n, rfl, ⟨pf, pa, h1, h2, h3⟩, ok, k⟩ := h
    have l0 := List.length_pos_iff.mpr ok.ne
    have l1 := ok.la
    have m0 := ok.m0
    have m1 := ok.m1
    refine ⟨_, (pss_cons (ps_asg (pv 0) (pg_tup (by rfl) (pgs_cons (pg_name (i := 2) sc_law_time.nd rfl (Or.inl rfl)) (pgs_cons (pg_name (i := 3) sc_law_time.nd rfl (Or.inl rfl)) (pgs_cons (pg_name (i := 4) sc_law_time.nd rfl (Or.inl rfl)) pgs_nil)))))
  (pss_cons (ps_if (pt_cmpR op_lt (pv 1) (pe_callB call_len_seq (by rfl) T.len PySem.boot_len (pa_cons (pv 2) pa_nil)) (nomark _))
    (pss_one (ps_ret (pe_ix ix_list (pv 2) (pv 1) (fun _ _ => rfl))))
    pss_nil)
  (pss_cons (ps_set (i := 5) sc_law_time.nd rfl (Or.inl rfl) (pe_ix ix_list (pv 3) (pe_op op_mod (pe_op op_sub (pv 1) (pe_callB call_len_seq (by rfl) T.len PySem.boot_len (pa_cons (pv 2) pa_nil))) (pe_callB call_len_seq (by rfl) T.len PySem.boot_len (pa_cons (pv 3) pa_nil))) (fun _ _ => rfl)))
  (pss_one (ps_ret (pe_ifExp (pt_cmpR op_isN (pv 5) pe_non (nomark _)) pe_non (pe_op op_add (pv 5) (pe_op op_mul (pe_op op_fdiv (pe_op op_sub (pv 1) (pe_callB call_len_seq (by rfl) T.len PySem.boot_len (pa_cons (pv 2) pa_nil))) (pe_callB call_len_seq (by rfl) T.len PySem.boot_len (pa_cons (pv 3) pa_nil))) (pv 4))))))))), ?_⟩
    walk_at "s"
    rw [List.length_map]
    refine ite2 (fun c => ?_) (fun c => ?_)
    · have c' : n < f.length := by
        have := of_decide_eq_true c
        omega
      have h0 : atI (f.map ov) (n : Int) = some (ov (gt f n)) := atI_nat (gt_of c')
      walk_at "s"
      have e : tmR f a m n = gt f n := if_pos c'
      rw [e] at k
      exact k
    · have c' : ¬ n < f.length := fun q => c (decide_eq_true (by omega))
      have en : (n : Int) - (f.length : Int) = ((n - f.length : Nat) : Int) := by omega
      have em : ((n : Int) - (f.length : Int)) % (a.length : Int) = (((n - f.length) % a.length : Nat) : Int) := by rw [en]; rfl
      have ed : ((n : Int) - (f.length : Int)) / (a.length : Int) = (((n - f.length) / a.length : Nat) : Int) := by rw [en]; rfl
      have lt : (n - f.length) % a.length < a.length := Nat.mod_lt _ l0
      have lla : (a.map ov).length = a.length := List.length_map ..
      have llf : (f.map ov).length = f.length := List.length_map ..
      have et : tmR f a m n = later1 (((n - f.length) / a.length : Nat) * m) (gt a ((n - f.length) % a.length)) := if_neg c'
      rw [et] at k
      walk_at "s"
      refine ⟨_, _, _, _, rfl, rfl, SqL.of h3, at_of (by show ((n : Int) - ((f.map ov).length : Int)) % ((a.map ov).length : Int) = _; rw [llf, lla]; exact em) (gt_of lt), ?_⟩
      walk_at "s"
      cases hg : gt a ((n - f.length) % a.length) with
      | none =>
        rw [hg] at k
        walk_at "s"
        exact k
      | some x =>
        rw [hg] at k
        walk_at "s"
        show Q (.int (x + (((n : Int) - ((f.map ov).length : Int)) / ((a.map ov).length : Int)) * m)) H
        rw [llf, lla, ed]
        exact k
abbrev s_law_times : Stmt := topS 33
theorem sc_law_times : FnScope ["told", "many", "n"] ["told", "many"] (defScope s_law_times) := ⟨rfl, rfl, rfl, by decide +kernel, rfl, by decide +kernel, by decide +kernel⟩
def spTimes : Sp := fun vs H Q _ => ∃ (p : Addr) (f a : List (Option Int)) (m : Int) (n : Nat), vs = [.ref p, .int n] ∧ ToldAt H p f a m ∧ Parts f a m ∧ n < 1000 ∧ ∀ H' q, Same H H' → H q = none → H' q = some (.lst (((List.range n).map (tmR f a m)).map ov)) → Q (.ref q) H'
theorem ok_law_times (D : Df K mg "_law_times" s_law_times ["told", "many"]) (T : Txt mg) (o_law_time : Own P w K mg base "_law_time" 1 ["told", "n"] spTold) : Own P w K mg base "_law_times" 2 ["told", "many"] spTimes := by
  refine D.own sc_law_times (fun vs H Q E h => ?_) (fun fa cdv A outer s H vs Q E hr h => ?_)
  · obtain ⟨_, _, _, _, _, rfl, _⟩ := h
    rfl
  · obtain ⟨p, f, a, m, n, rfl, hT, ok, hn, k⟩ := h
    have h1000 : 1000 < sizeLine := small1000 (Nat.le_refl _)
    refine ⟨_, (pss_one (ps_ret (pe_lc (own := [("n", 2)]) (g := gName 2) (tt := tYes) rfl sc_law_times.nd (pi_range1 (by rfl) T.range (pa_cons (pv 1) pa_nil)) (blkOk_by (own := [("n", 2)]) (N := ["told", "many", "n"]) (sc := defScope s_law_times) (by decide +kernel)) (fun _ _ _ _ _ => (pg_name (i := 2) sc_law_times.nd rfl (Or.inl rfl))) (fun _ _ _ _ _ => pts_nil) (fun _ _ _ _ _ => (pe_own o_law_time (hr.mono (by decide)) (pa_cons (pv 0) (pa_cons (pv 2) pa_nil))))))), ?_⟩
    walk_at "s"
    refine ⟨by omega, by omega, fun L nL => lc_range (lo := 0) (n := n) (fun i H' => Same H H' ∧ H' L = some (.lst (((List.range i).map (tmR f a m)).map ov))) ⟨same_upd nL, upd_same⟩ ?_ ?_⟩
    · rintro i H' hi ⟨s1, e1⟩
      walk_at "s"
      refine ⟨p, f, a, m, i, by rw [Int.zero_add]; rfl, s1.told hT, ok, ?_⟩
      have hz : (((List.range i).map (tmR f a m)).map ov).length < sizeLine := by
        rw [List.length_map, List.length_map, List.length_range]
        omega
      refine ⟨_, e1, hz, s1.upd1 nL, ?_⟩
      rw [upd_same, List.range_succ, List.map_append, List.map_append]
      rfl
    · rintro H' ⟨s1, e1⟩
      exact k _ _ s1 nL e1
abbrev s_law_made : Stmt := topS 34
theorem sc_law_made : FnScope ["told"] ["told"] (defScope s_law_made) := ⟨rfl, rfl, rfl, by decide +kernel, rfl, by decide +kernel, by decide +kernel⟩
def spMade (C : Addr) : Sp := fun vs H Q _ => ∃ (p : Addr) (f a : List (Option Int)) (m : Int), vs = [.ref p] ∧ ToldAt H p f a m ∧ OkRow f a m ∧ Parts f a m ∧ ∀ H' q f' a' m', Same H H' → H q = none → RowAt C H' q f' a' m' → MadeOf f a m f' a' m' → Q (.ref q) H'
theorem ok_law_made (D : Df K mg "_law_made" s_law_made ["told"]) (o_Row : Mks P w K mg base "Row" C 4 ["self", "first", "again", "more"] (spInit C)) : Own P w K mg base "_law_made" 6 ["told"] (spMade C) := by
  refine D.own sc_law_made (fun vs H Q E h => ?_) (fun fa cdv A outer s H vs Q E hr h => ?_)
  · obtain ⟨_, _, _, _, rfl, _⟩ := h
    rfl
  · obtain ⟨p, f, a, m, rfl, ⟨pf, pa, h1, h2, h3⟩, ok, pt, k⟩ := h
    refine ⟨_, (pss_one (ps_ret (pe_mks o_Row (hr.mono (by decide)) (pa_cons (pe_ix ix_tup (pv 0) pe_int (fun _ _ => rfl)) (pa_cons (pe_ix ix_tup (pv 0) pe_int (fun _ _ => rfl)) (pa_cons (pe_ix ix_tup (pv 0) pe_int (fun _ _ => rfl)) pa_nil)))))), ?_⟩
    walk_at "s"
    intro x dx nx ndx nex
    have sx : Same H (upd (upd H dx (.own x)) x (.ins C dx [])) := fun b o e => by
      rw [upd_ne (ne_of_none e nx), upd_ne (ne_of_none e ndx)]
      exact e
    refine ⟨H, x, dx, pf, pa, f, a, m, rfl, nx, sx, upd_same, Or.inl h2, Or.inl h3, ok, pt.lf, pt.la, pt.m0, by have := pt.m1; omega, fun H' f' a' m' s1 r1 mo => ⟨rfl, ?_⟩⟩
    exact k _ _ _ _ _ s1 nx r1 mo
end
end My

namespace My
open PySem PySem.Spec PyProof.Rows L2
local macro_rules | `(tactic| walk_at "side") => `(tactic| first | (dsimp only; omega) | exact ⟨by omega, by omega⟩ | exact Or.inl ⟨by omega, by omega⟩ | exact Or.inr ⟨by omega, by omega⟩ | decide)
local macro_rules | `(tactic| walk_at "sq") => `(tactic| first | assumption | exact SqL.of (by assumption) | exact SqT.of (by assumption) | (refine L2.Same.seq (by assumption) ?_; walk_at "sq") | (refine L2.Same.seqT (by assumption) ?_; walk_at "sq") | exact Or.inl (by walk_at "sq") | exact Or.inr (by walk_at "sq"))
local macro_rules | `(tactic| walk_at "1") => `(tactic| first
  | refine ⟨_, rfl, iteT ?_⟩
  | refine ⟨_, rfl, iteF ?_⟩
  | refine ⟨_, rfl, ?_⟩
  | refine ⟨_, _, rfl, rfl, (by walk_at "side"), ?_⟩
  | refine ⟨_, _, rfl, rfl, ?_⟩
  | refine ⟨_, _, _, _, true, rfl, .ty _, .base (.int _), kit_ty (a := "int") (by decide +kernel), ?_⟩
  | refine ⟨_, _, _, _, false, rfl, .ty _, .base (.int _), kit_ty (a := "int") (by decide +kernel), ?_⟩
  | refine ⟨_, _, rfl, (by walk_at "sq"), ?_⟩
  | refine ⟨_, _, _, _, rfl, rfl, (by walk_at "sq"), (by first | rfl | assumption), ?_⟩
  | refine Or.inl ⟨_, _, _, _, rfl, rfl, (by walk_at "sq"), (by first | rfl | assumption), ?_⟩
  | refine Or.inr (Or.inl ⟨_, _, _, _, rfl, rfl, (by walk_at "sq"), (by first | rfl | assumption), ?_⟩)
  | refine ⟨_, _, rfl, Or.inl ⟨(by walk_at "sq"), ?_⟩⟩
  | refine ⟨rfl, ?_⟩
  | refine iteT ?_
  | refine iteF ?_
  | refine ⟨_, _, _, _, _, rfl, (by assumption), (by assumption), (by assumption), (by assumption), ?_⟩
  | refine Or.inl ⟨_, rfl, ?_⟩
  | refine Or.inr ⟨_, rfl, ?_⟩
  | refine ⟨_, _, rfl, (by walk_at "side"), ?_⟩
  | refine ⟨_, _, rfl, ?_⟩)
local macro_rules | `(tactic| walk_at "fld") => `(tactic| skip)
local macro_rules | `(tactic| walk_at "s") => `(tactic| repeat walk_at "1")
local macro_rules | `(tactic| walk_at "size") => `(tactic| first | exact Nat.le_of_ble_eq_true rfl | (simp only [List.length_map, List.length_append, List.length_cons, List.length_nil]; omega))
local macro_rules | `(tactic| walk_at "new") => `(tactic| (first | refine ⟨(by walk_at "size"), fun p hp => ?_⟩ | refine fun p hp => ?_); (generalize hq : upd _ p _ = H1); (obtain ⟨s, e⟩ := new_facts hp hq); clear hq)

/-- rising, within bounds -/
structure Up (lo : Int) (L : List Int) (h : Int) : Prop where
  asc : L.Pairwise (· ≤ ·)
  bd : ∀ x ∈ L, lo ≤ x ∧ x ≤ h
theorem Up.app {lo h h' : Int} {L : List Int} (u : Up lo L h) (h0 : lo ≤ h) (h1 : h ≤ h') : Up lo (L ++ [h]) h' := by
  refine ⟨List.pairwise_append.mpr ⟨u.asc, List.pairwise_singleton _ _, fun x hx y hy => ?_⟩, fun x hx => ?_⟩
  · rw [List.mem_singleton.mp hy]
    exact (u.bd x hx).2
  · rcases List.mem_append.mp hx with q | q
    · have := u.bd x q
      exact ⟨this.1, by omega⟩
    · rw [List.mem_singleton.mp q]
      exact ⟨h0, h1⟩
/-- what a drawn row is -/
structure Shape (f a : List (Option Int)) (m : Int) : Prop where
  ex : ∃ (nn : Nat) (fl al : List Int) (lo hi : Int), f = List.replicate nn none ++ fl.map some ∧ a = al.map some ∧ (fl ++ al).Pairwise (· ≤ ·) ∧ al.head? = some lo ∧ al.getLast? = some hi ∧ hi - lo ≤ m ∧ m ≤ hi - lo + 4 ∧ nn ≤ 2 ∧ fl.length ≤ 3 ∧ al.length ≤ 3 ∧ (∀ x ∈ fl ++ al, -4 ≤ x ∧ x ≤ 40)
def ToldB (b : Addr) (H : Hp) (p : Addr) (f a : List (Option Int)) (m : Int) : Prop := ∃ pf pa, p ≠ b ∧ pf ≠ b ∧ pa ≠ b ∧ H p = some (.tup [.ref pf, .ref pa, .int m]) ∧ H pf = some (.lst (f.map ov)) ∧ H pa = some (.lst (a.map ov))
theorem ToldB.told {b : Addr} {H : Hp} {p : Addr} {f a : List (Option Int)} {m : Int} (h : ToldB b H p f a m) : ToldAt H p f a m := by
  obtain ⟨pf, pa, _, _, _, h1, h2, h3⟩ := h
  exact ⟨pf, pa, h1, h2, h3⟩
theorem ToldB.bx {b : Addr} {H H' : Hp} {p : Addr} {f a : List (Option Int)} {m : Int} (h : ToldB b H p f a m) (s : Bx b H H') : ToldB b H' p f a m := by
  obtain ⟨pf, pa, n1, n2, n3, h1, h2, h3⟩ := h
  exact ⟨pf, pa, n1, n2, n3, s _ _ n1 h1, s _ _ n2 h2, s _ _ n3 h3⟩
theorem ov_some (L : List Int) : L.map V.int = (L.map some).map ov := by
  rw [List.map_map]
  rfl
section
variable {P : Program} {w : World} {K : PySem.W.Frag} {mg : Str → Option Value} {base : Heap} {C : Addr}
abbrev s_law_row : Stmt := topS 31
theorem sc_law_row : FnScope ["box", "is_low", "here", "first", "turn", "again"] ["box", "is_low"] (defScope s_law_row) := ⟨rfl, rfl, rfl, by decide +kernel, rfl, by decide +kernel, by decide +kernel⟩
def spRow : Sp := fun vs H Q _ => ∃ (b : Addr) (low : Bool), vs = [.ref b, .bl low] ∧ BoxAt H b ∧ ∀ H' p f a m, Bx b H H' → BoxAt H' b → H p = none → ToldB b H' p f a m → Shape f a m → Q (.ref p) H'
theorem ok_law_row (D : Df K mg "_law_row" s_law_row ["box", "is_low"]) (T : Txt mg) (o_law_take : Own P w K mg base "_law_take" 1 ["box", "many"] spTake) (o_law_pick : Own P w K mg base "_law_pick" 2 ["box", "some"] spPick) : Own P w K mg base "_law_row" 3 ["box", "is_low"] spRow := by
  refine D.own sc_law_row (fun vs H Q E h => ?_) (fun fa cdv A outer s H vs Q E hr h => ?_)
  · obtain ⟨_, _, rfl, _⟩ := h
    rfl
  · obtain ⟨b, low, rfl, hb, k⟩ := h
    have h1000 : 1000 < sizeLine := small1000 (Nat.le_refl _)
    refine ⟨_, (pss_cons (ps_set (i := 2) sc_law_row.nd rfl (Or.inl rfl) (pe_op op_sub (pe_own o_law_take (hr.mono (by decide)) (pa_cons (pv 0) (pa_cons pe_int pa_nil))) (pe_op op_mul pe_int (pe_callTy call_int1 (by rfl) T.int (by decide +kernel) (pa_cons (pv 1) pa_nil)))))
  (pss_cons (ps_set (i := 3) sc_law_row.nd rfl (Or.inl rfl) (pe_lst pa_nil))
  (pss_cons (ps_for PassesOwn.never rfl (pi_range1 (by rfl) T.range (pa_cons (pe_own o_law_take (hr.mono (by decide)) (pa_cons (pv 0) (pa_cons pe_int pa_nil))) pa_nil)) (pg_name (i := 4) sc_law_row.nd rfl (Or.inl rfl))
    (pss_cons (ps_expr (pe_bm PySem.F.plainAttrs_list PySem.F.slot_list_append PySem.F.type_list_append mt_append (pv 3) (pa_cons (pv 2) pa_nil)))
      (pss_one (ps_set (i := 2) sc_law_row.nd rfl (Or.inl rfl) (pe_op op_add (pv 2) (pe_own o_law_pick (hr.mono (by decide)) (pa_cons (pv 0) (pa_cons (pe_lst (pa_cons pe_int (pa_cons pe_int (pa_cons pe_int (pa_cons pe_int pa_nil))))) pa_nil))))))))
  (C8.pss_cut (ps_if (pt_cmpR op_eq (pe_own o_law_take (hr.mono (by decide)) (pa_cons (pv 0) (pa_cons pe_int pa_nil))) pe_int (nomark _))
    (pss_one (ps_set (i := 3) sc_law_row.nd rfl (Or.inl rfl) (pe_op op_cat (pe_op op_rep (pe_lst (pa_cons pe_non pa_nil)) (pe_op op_add pe_int (pe_own o_law_take (hr.mono (by decide)) (pa_cons (pv 0) (pa_cons pe_int pa_nil))))) (pv 3))))
    pss_nil)
  (pss_cons (ps_set (i := 5) sc_law_row.nd rfl (Or.inl rfl) (pe_lst pa_nil))
  (pss_cons (ps_for PassesOwn.never rfl (pi_range1 (by rfl) T.range (pa_cons (pe_op op_add pe_int (pe_own o_law_take (hr.mono (by decide)) (pa_cons (pv 0) (pa_cons pe_int pa_nil)))) pa_nil)) (pg_name (i := 4) sc_law_row.nd rfl (Or.inl rfl))
    (pss_cons (ps_expr (pe_bm PySem.F.plainAttrs_list PySem.F.slot_list_append PySem.F.type_list_append mt_append (pv 5) (pa_cons (pv 2) pa_nil)))
      (pss_one (ps_set (i := 2) sc_law_row.nd rfl (Or.inl rfl) (pe_op op_add (pv 2) (pe_own o_law_pick (hr.mono (by decide)) (pa_cons (pv 0) (pa_cons (pe_lst (pa_cons pe_int (pa_cons pe_int (pa_cons pe_int (pa_cons pe_int pa_nil))))) pa_nil))))))))
  (pss_one (ps_ret (pe_tup (pa_cons (pv 3) (pa_cons (pv 5) (pa_cons (pe_op op_add (pe_op op_sub (pe_ix ix_list (pv 5) (pe_un un_neg pe_int) (fun _ _ => rfl)) (pe_ix ix_list (pv 5) pe_int (fun _ _ => rfl))) (pe_own o_law_take (hr.mono (by decide)) (pa_cons (pv 0) (pa_cons pe_int pa_nil)))) pa_nil)))))))))))), ?_⟩
    walk_at "s"
    refine ⟨by decide, hb, fun H1 n0 hn0 s1 b1 => ?_⟩
    have hn0' : n0 < 7 := hn0
    walk_at "s"
    have hlow : (0 : Int) ≤ (if low = true then 1 else 0) ∧ ((if low = true then 1 else 0 : Int)) ≤ 1 := by cases low <;> decide
    generalize hl : (if low = true then (1 : Int) else 0) = l0 at hlow ⊢
    have hs0 : -4 ≤ (n0 : Int) - 4 * l0 ∧ (n0 : Int) - 4 * l0 ≤ 6 := ⟨by omega, by omega⟩
    generalize hst : (n0 : Int) - 4 * l0 = st at hs0
    walk_at "new"
    rename_i pF nF H2 s2 e2
    have nFb : pF ≠ b := b1.ne nF
    have b2 := b1.same s2
    walk_at "s"
    refine ⟨by decide, b2, fun H3 n1 hn1 s3 b3 => ?_⟩
    have hn1' : n1 < 4 := hn1
    have e3 := s3 _ _ nFb e2
    have S3 : Bx b H H3 := s1.trans ((Bx.of s2).trans s3)
    have nFH : H pF = none := by
      cases q : H pF with
      | none => rfl
      | some o =>
        have := s1 _ _ nFb q
        rw [nF] at this
        cases this
    walk_at "s"
    refine ⟨by omega, by omega, for_range (lo := 0) (n := n1) (fun i σ H' => ∃ (fl : List Int) (h : Int) (y : Option V), σ = [some (.ref b), some (.bl low), some (.int h), some (.ref pF), y, none] ∧ Bx b H H' ∧ BoxAt H' b ∧ H' pF = some (.lst (fl.map V.int)) ∧ fl.length = i ∧ Up st fl h ∧ st ≤ h ∧ h ≤ st + 5 * i) ?_ ?_ ?_⟩
    · refine ⟨[], st, none, ?_, S3, b3, e3, rfl, ⟨List.Pairwise.nil, fun x hx => nomatch hx⟩, Int.le_refl _, by omega⟩
      rw [← hst]
      rfl
    · rintro i σ H' hi ⟨fl, h, y, rfl, S', b', e', hlen, up, h1, h2⟩
      walk_at "s"
      refine ⟨.inl ⟨rfl, _, SqL.of e'⟩, _, rfl, pF, _, _, rfl, rfl, e', by rw [List.length_map]; omega, ?_⟩
      generalize hq : upd _ pF _ = H4
      obtain ⟨e4, o4⟩ := upd_facts hq
      clear hq
      have S4 : Bx b H H4 := fun c o nc e => by
        rw [o4 c (ne_of_none e nFH)]
        exact S' c o nc e
      have b4 : BoxAt H4 b := by
        obtain ⟨x, y, z, x0, hb⟩ := b'
        exact ⟨x, y, z, x0, by rw [o4 b nFb.symm]; exact hb⟩
      walk_at "s"
      walk_at "new"
      rename_i pL nL H5 s5 e5
      have b5 := b4.same s5
      have nLb : pL ≠ b := b4.ne nL
      refine ⟨b, pL, _, rfl, b5, nLb, e5, by decide, by decide, fun H6 x hx s6 b6 => ?_⟩
      obtain ⟨d, rfl, d0, d1⟩ : ∃ d : Int, x = .int d ∧ 0 ≤ d ∧ d ≤ 5 := by
        simp only [List.mem_cons, List.not_mem_nil, or_false] at hx
        rcases hx with rfl | rfl | rfl | rfl
        · exact ⟨0, rfl, by decide, by decide⟩
        · exact ⟨1, rfl, by decide, by decide⟩
        · exact ⟨2, rfl, by decide, by decide⟩
        · exact ⟨5, rfl, by decide, by decide⟩
      have e6 := s6 _ _ nFb (s5 _ _ e4)
      walk_at "s"
      refine ⟨fl ++ [h], h + d, _, rfl, S4.trans ((Bx.of s5).trans s6), b6, ?_, by simp [hlen], up.app h1 (by omega), by omega, by omega⟩
      rw [e6, List.map_append]
      rfl
    · rintro σ H' ⟨fl, h, y, rfl, S', b', e', hlen, up, h1, h2⟩
      refine ⟨fun σ' H4 => ∃ (nn : Nat) (pf : Addr) (y : Option V), σ' = [some (.ref b), some (.bl low), some (.int h), some (.ref pf), y, none] ∧ Bx b H H4 ∧ BoxAt H4 b ∧ H pf = none ∧ pf ≠ b ∧ nn ≤ 2 ∧ H4 pf = some (.lst ((List.replicate nn none ++ fl.map some).map ov)), ?_, ?_⟩
      · walk_at "s"
        refine ⟨by decide, b', fun H4 n4 hn4 s4 b4 => ?_⟩
        have e4 := s4 _ _ nFb e'
        walk_at "s"
        refine ite2 (fun c => ?_) (fun c => ?_)
        · walk_at "new"
          rename_i pN nN H5 s5 e5
          have b5 := b4.same s5
          have nNb : pN ≠ b := b4.ne nN
          have e5f := s5 _ _ e4
          walk_at "s"
          refine ⟨by decide, b5, fun H6 n6 hn6 s6 b6 => ?_⟩
          have hn6' : n6 < 2 := hn6
          have e6 := s6 _ _ nNb e5
          have e6f := s6 _ _ nFb e5f
          walk_at "s"
          refine ⟨_, _, _, rfl, rfl, e6, by omega, by omega, ?_, ?_⟩
          · show 1 * ((1 : Int) + (n6 : Int)).toNat ≤ sizeLine
            omega
          walk_at "new"
          rename_i pR nR H7 s7 e7
          have e7f := s7 _ _ e6f
          rw [List.flatten_replicate_singleton] at e7
          walk_at "s"
          refine ⟨by rw [List.length_replicate, List.length_map]; omega, ?_⟩
          walk_at "new"
          rename_i pS nS H8 s8 e8
          have B8 : Bx b H H8 := S'.trans (s4.trans ((Bx.of s5).trans (s6.trans (Bx.of (s7.trans s8)))))
          have b8 : BoxAt H8 b := (b6.same s7).same s8
          have nSb : pS ≠ b := (b6.same s7).ne nS
          have nSH : H pS = none := by
            cases q : H pS with
            | none => rfl
            | some o =>
              have := s7 _ _ (s6 _ _ nSb (s5 _ _ (s4 _ _ nSb (S' _ _ nSb q))))
              rw [nS] at this
              cases this
          refine ⟨(1 + (n6 : Int)).toNat, pS, y, rfl, B8, b8, nSH, nSb, by omega, ?_⟩
          rw [e8, List.map_append, List.map_replicate, ov_some]
          rfl
        · exact ⟨0, pF, y, rfl, S'.trans s4, b4, nFH, nFb, by omega, by rw [e4, ov_some]; rfl⟩
      · rintro σ' H4 ⟨nn, pf, y4, rfl, S4, b4, nfH, nfb, hnn, e4⟩
        walk_at "new"
        rename_i pA nA H5 s5 e5
        have b5 := b4.same s5
        have nAb : pA ≠ b := b4.ne nA
        have nAf : pf ≠ pA := ne_of_none e4 nA
        have nAH : H pA = none := by
          cases q : H pA with
          | none => rfl
          | some o =>
            have := S4 _ _ nAb q
            rw [nA] at this
            cases this
        have e5f := s5 _ _ e4
        walk_at "s"
        refine ⟨by decide, b5, fun H6 n6 hn6 s6 b6 => ?_⟩
        have hn6' : n6 < 3 := hn6
        have e6 := s6 _ _ nAb e5
        have e6f := s6 _ _ nfb e5f
        have S6 : Bx b H H6 := S4.trans ((Bx.of s5).trans s6)
        walk_at "s"
        refine ⟨by omega, by omega, for_range (lo := 0) (n := (1 + (n6 : Int)).toNat) (fun i σ H' => ∃ (al : List Int) (h' : Int) (y : Option V), σ = [some (.ref b), some (.bl low), some (.int h'), some (.ref pf), y, some (.ref pA)] ∧ Bx b H H' ∧ BoxAt H' b ∧ H' pA = some (.lst (al.map V.int)) ∧ H' pf = some (.lst ((List.replicate nn none ++ fl.map some).map ov)) ∧ al.length = i ∧ Up st (fl ++ al) h' ∧ st ≤ h' ∧ h' ≤ st + 15 + 4 * i ∧ (∀ z, al.head? = some z → h' ≤ z + 4 * i)) ?_ ?_ ?_⟩
        · refine ⟨[], h, _, rfl, S6, b6, e6, e6f, rfl, ?_, h1, by omega, fun z hz => nomatch hz⟩
          rw [List.append_nil]
          exact up
        · rintro i σ H' hi ⟨al, h', y, rfl, S', b', e', ef', hlen', up', h1', h2', h3'⟩
          walk_at "s"
          refine ⟨.inl ⟨rfl, _, SqL.of e'⟩, _, rfl, pA, _, _, rfl, rfl, e', by rw [List.length_map]; omega, ?_⟩
          generalize hq : upd _ pA _ = H7
          obtain ⟨e7, o7⟩ := upd_facts hq
          clear hq
          have S7 : Bx b H H7 := fun c o nc e => by
            rw [o7 c (ne_of_none e nAH)]
            exact S' c o nc e
          have b7 : BoxAt H7 b := by
            obtain ⟨x, y, z, x0, hb⟩ := b'
            exact ⟨x, y, z, x0, by rw [o7 b nAb.symm]; exact hb⟩
          have e7f : H7 pf = some (.lst ((List.replicate nn none ++ fl.map some).map ov)) := by
            rw [o7 _ nAf]
            exact ef'
          walk_at "s"
          walk_at "new"
          rename_i pL nL H8 s8 e8
          have b8 := b7.same s8
          have nLb : pL ≠ b := b7.ne nL
          refine ⟨b, pL, _, rfl, b8, nLb, e8, by decide, by decide, fun H9 x hx s9 b9 => ?_⟩
          obtain ⟨d, rfl, d0, d1⟩ : ∃ d : Int, x = .int d ∧ 0 ≤ d ∧ d ≤ 4 := by
            simp only [List.mem_cons, List.not_mem_nil, or_false] at hx
            rcases hx with rfl | rfl | rfl | rfl
            · exact ⟨0, rfl, by decide, by decide⟩
            · exact ⟨1, rfl, by decide, by decide⟩
            · exact ⟨2, rfl, by decide, by decide⟩
            · exact ⟨4, rfl, by decide, by decide⟩
          have e9 := s9 _ _ nAb (s8 _ _ e7)
          have e9f := s9 _ _ nfb (s8 _ _ e7f)
          walk_at "s"
          refine ⟨al ++ [h'], h' + d, _, rfl, S7.trans ((Bx.of s8).trans s9), b9, ?_, e9f, by simp [hlen'], ?_, by omega, by omega, fun z hz => ?_⟩
          · rw [e9, List.map_append]
            rfl
          · rw [← List.append_assoc]
            exact up'.app h1' (by omega)
          · cases al with
            | nil =>
              have : h' = z := Option.some.inj hz
              omega
            | cons w r =>
              have := h3' z hz
              omega
        · rintro σ H' ⟨al, h', y, rfl, S', b', e', ef', hlen', up', h1', h2', h3'⟩
          have hal : al.length = n6 + 1 := by omega
          obtain ⟨lo, hlo⟩ : ∃ lo, al.head? = some lo := by
            cases al with
            | nil => cases hal
            | cons w r => exact ⟨w, rfl⟩
          obtain ⟨hi, hhi⟩ : ∃ hi, al.getLast? = some hi := by
            cases q : al.getLast? with
            | none =>
              rw [List.getLast?_eq_none_iff.mp q] at hal
              cases hal
            | some w => exact ⟨w, rfl⟩
          have a0 : atI (al.map V.int) 0 = some (.int lo) := atI_head (by rw [List.head?_map, hlo]; rfl)
          have a1 : atI (al.map V.int) (-1) = some (.int hi) := atI_neg1 (by rw [List.getLast?_map, hhi]; rfl)
          walk_at "s"
          refine ⟨by decide, b', fun H7 r hr7 s7 b7 => ?_⟩
          have hr7' : r < 5 := hr7
          have e7 := s7 _ _ nAb e'
          have e7f := s7 _ _ nfb ef'
          walk_at "s"
          walk_at "new"
          rename_i pT nT H8 s8 e8
          have nTb : pT ≠ b := b7.ne nT
          have B8 : Bx b H H8 := S'.trans (s7.trans (Bx.of s8))
          have nTH : H pT = none := by
            cases q : H pT with
            | none => rfl
            | some o =>
              have := s7 _ _ nTb (S' _ _ nTb q)
              rw [nT] at this
              cases this
          have hn1' : n1 < 4 := hn1
          have mlo : lo ∈ al := List.mem_of_mem_head? hlo
          have mhi : hi ∈ al := List.mem_of_getLast? hhi
          have hbd := fun x hx => up'.bd x hx
          have blo := hbd lo (List.mem_append_right _ mlo)
          have bhi := hbd hi (List.mem_append_right _ mhi)
          have hz := h3' lo hlo
          refine k H8 pT (List.replicate nn none ++ fl.map some) (al.map some) (hi - lo + r) B8 (b7.same s8) nTH ⟨pf, pA, nTb, nfb, nAb, e8, s8 _ _ e7f, by rw [s8 _ _ e7, ov_some]⟩
            ⟨nn, fl, al, lo, hi, rfl, rfl, up'.asc, hlo, hhi, by omega, by omega, hnn, by omega, by omega, fun x hx => ?_⟩
          have := hbd x hx
          omega
end
end My

namespace My
open PySem PySem.Spec PyProof.Rows L2
theorem later1_later1 (x y : Int) (z : Option Int) : later1 x (later1 y z) = later1 (y + x) z := by
  cases z with
  | none => rfl
  | some v =>
    show some (v + y + x) = some (v + (y + x))
    rw [Int.add_assoc]
theorem later1_zero (z : Option Int) : later1 0 z = z := by
  cases z with
  | none => rfl
  | some v =>
    show some (v + 0) = some v
    rw [Int.add_zero]
theorem gt_lt {xs : List (Option Int)} {i : Nat} (h : i < xs.length) : gt xs i = xs[i] := by
  unfold gt
  rw [List.getElem?_eq_getElem h]
  rfl
theorem get_some {xs : List (Option Int)} {i : Nat} (h : i < xs.length) : xs[i]? = some (gt xs i) := by
  rw [gt_lt h, List.getElem?_eq_getElem h]
/-- one turn of the again part -/
theorem fits_step {a : List (Option Int)} {m : Int} {t : Nat} (F : Fits a m t) {i : Nat} (h : i + t < a.length) : gt a (i + t) = later1 (m * t / a.length) (gt a i) := by
  have e := congrArg (fun l => l[i]?) F.eq
  simp only [List.getElem?_drop, List.getElem?_map] at e
  rw [List.getElem?_take_of_lt (by omega), Nat.add_comm t i] at e
  unfold gt
  rw [e]
  cases a[i]? with
  | none => rfl
  | some x => rfl
theorem fits_num {a : List (Option Int)} {m : Int} {t : Nat} (F : Fits a m t) {c : Nat} (hc : a.length = t * c) (h0 : 0 < a.length) : m = (m * t / a.length) * c := by
  have h1 : (m * t / a.length) * (a.length : Int) = m * t := by
    have := Int.mul_ediv_add_emod (m * t) a.length
    rw [F.num] at this
    rw [Int.mul_comm]
    omega
  have ht : (t : Int) ≠ 0 := by have := F.pos; omega
  generalize m * t / a.length = g at h1 ⊢
  have h2 : (g * c) * t = m * t := by
    rw [← h1, hc, Int.natCast_mul, Int.mul_assoc, Int.mul_comm (c : Int) (t : Int)]
  exact (Int.eq_of_mul_eq_mul_right ht h2).symm
theorem fits_iter {a : List (Option Int)} {m : Int} {t : Nat} (F : Fits a m t) (r : Nat) : ∀ j : Nat, r + j * t < a.length → gt a (r + j * t) = later1 (j * (m * t / a.length)) (gt a r)
  | 0, _ => by
    rw [Nat.zero_mul, Nat.add_zero, Int.natCast_zero, Int.zero_mul, later1_zero]
  | j + 1, h => by
    have e : r + (j + 1) * t = (r + j * t) + t := by rw [Nat.succ_mul, Nat.add_assoc]
    rw [e] at h ⊢
    rw [fits_step F h, fits_iter F r j (by omega), later1_later1]
    congr 1
    rw [show ((j + 1 : Nat) : Int) = (j : Int) + 1 by omega, Int.add_mul, Int.one_mul]
/-- the again part by its least turn -/
theorem again_least {a : List (Option Int)} {m : Int} {t : Nat} (F : Fits a m t) (h0 : 0 < a.length) (i : Nat) : later1 ((i / a.length : Nat) * m) (gt a (i % a.length)) = later1 ((i / t : Nat) * (m * t / a.length)) (gt a (i % t)) := by
  obtain ⟨c, hc⟩ := F.dvd
  have hm := fits_num F hc h0
  have ht := F.pos
  have hs : i % a.length = (i % a.length) % t + (i % a.length) / t * t := by
    have := Nat.mod_add_div (i % a.length) t
    rw [Nat.mul_comm t] at this
    exact this.symm
  have hlt := Nat.mod_lt i h0
  have e1 : (i % a.length) % t = i % t := by
    rw [hc]
    exact Nat.mod_mul_right_mod i t c
  have e2 : i / t = i / a.length * c + (i % a.length) / t := by
    have h1 : i = a.length * (i / a.length) + i % a.length := (Nat.div_add_mod i a.length).symm
    have h2 : a.length * (i / a.length) = t * (i / a.length * c) := by
      rw [show a.length * (i / a.length) = t * c * (i / a.length) by rw [← hc], Nat.mul_assoc, Nat.mul_comm c]
    have h3 : i = i % a.length + t * (i / a.length * c) := by omega
    calc i / t = (i % a.length + t * (i / a.length * c)) / t := by rw [← h3]
      _ = i % a.length / t + i / a.length * c := Nat.add_mul_div_left _ _ ht
      _ = _ := Nat.add_comm _ _
  have e3 : gt a (i % a.length) = later1 (((i % a.length) / t : Nat) * (m * t / a.length)) (gt a (i % t)) := by
    have h4 := fits_iter F ((i % a.length) % t) ((i % a.length) / t) (by rw [← hs]; exact hlt)
    rw [← hs, e1] at h4
    exact h4
  rw [e3, later1_later1]
  congr 1
  rw [e2, Int.natCast_add, Int.add_mul, Int.add_comm, Int.natCast_mul]
  congr 1
  have : (((i / a.length : Nat) : Int) * m) = ((i / a.length : Nat) : Int) * ((m * t / a.length) * c) := by rw [← hm]
  rw [this, Int.mul_assoc]
  congr 1
  exact Int.mul_comm _ _
section
variable {f a : List (Option Int)} {m : Int}
theorem tm_lt {n : Nat} (h : n < f.length + a.length) : tmR f a m n = gt (f ++ a) n := by
  unfold tmR gt
  by_cases c : n < f.length
  · rw [if_pos c, List.getElem?_append_left c]
  · have c2 : n - f.length < a.length := by omega
    rw [if_neg c, List.getElem?_append_right (by omega), Nat.div_eq_of_lt c2, Nat.mod_eq_of_lt c2, Int.natCast_zero, Int.zero_mul, later1_zero]
theorem tm_ge {t : Nat} (F : Fits a m t) (h0 : 0 < a.length) {n : Nat} (h : f.length ≤ n) : tmR f a m n = later1 (((n - f.length) / t : Nat) * (m * t / a.length)) (gt a ((n - f.length) % t)) := by
  unfold tmR
  rw [if_neg (by omega)]
  exact again_least F h0 _
/-- from b on all comes again -/
theorem tm_step {t b : Nat} (F : LeastTurn a m t) (S : ShortF (f ++ a) t (m * t / a.length) f.length b) (h0 : 0 < a.length) {n : Nat} (h : b ≤ n) : tmR f a m (n + t) = later1 (m * t / a.length) (tmR f a m n) := by
  have ht := F.fits.pos
  have hle := F.le
  by_cases c : n < f.length
  · have e := S.eq n h c
    have l1 : n + t < (f ++ a).length := by rw [List.length_append]; omega
    have l2 : n < (f ++ a).length := by rw [List.length_append]; omega
    rw [tm_lt (n := n + t) (by omega), tm_lt (n := n) (by omega)]
    rw [get_some l1, get_some l2] at e
    exact Option.some.inj e
  · rw [tm_ge F.fits h0 (n := n + t) (by omega), tm_ge F.fits h0 (n := n) (by omega), later1_later1]
    have e1 : (n + t - f.length) = (n - f.length) + t := by omega
    rw [e1, Nat.add_div_right _ ht, Nat.add_mod_right]
    congr 1
    rw [show (((n - f.length) / t + 1 : Nat) : Int) = (((n - f.length) / t : Nat) : Int) + 1 by omega, Int.add_mul, Int.one_mul]
theorem tm_iter {t b : Nat} (F : LeastTurn a m t) (S : ShortF (f ++ a) t (m * t / a.length) f.length b) (h0 : 0 < a.length) {n : Nat} (h : b ≤ n) : ∀ q : Nat, tmR f a m (n + q * t) = later1 (q * (m * t / a.length)) (tmR f a m n)
  | 0 => by rw [Nat.zero_mul, Nat.add_zero, Int.natCast_zero, Int.zero_mul, later1_zero]
  | q + 1 => by
    rw [show n + (q + 1) * t = (n + q * t) + t by rw [Nat.succ_mul, Nat.add_assoc], tm_step F S h0 (by omega), tm_iter F S h0 h q, later1_later1]
    congr 1
    rw [show ((q + 1 : Nat) : Int) = (q : Int) + 1 by omega, Int.add_mul, Int.one_mul]
theorem gt_take {xs : List (Option Int)} {b n : Nat} (h : n < b) : gt (xs.take b) n = gt xs n := by
  unfold gt
  rw [List.getElem?_take_of_lt h]
theorem gt_mid {xs : List (Option Int)} {b t n : Nat} (h : n < t) : gt ((xs.drop b).take t) n = gt xs (b + n) := by
  unfold gt
  rw [List.getElem?_take_of_lt h, List.getElem?_drop]
/-- what is made has the same times -/
theorem made_times {f' a' : List (Option Int)} {m' : Int} (M : MadeOf f a m f' a' m') (h0 : 0 < a.length) (n : Nat) : tmR f' a' m' n = tmR f a m n := by
  obtain ⟨t, b, F, S, rfl, rfl, rfl⟩ := M
  have ht := F.fits.pos
  have hle := F.le
  have hb := S.le
  have l1 : ((f ++ a).take b).length = b := by rw [List.length_take, List.length_append]; omega
  have l2 : (((f ++ a).drop b).take t).length = t := by rw [List.length_take, List.length_drop, List.length_append]; omega
  by_cases c : n < b
  · rw [show tmR f a m n = gt (f ++ a) n from tm_lt (by omega)]
    unfold tmR
    rw [l1, if_pos c, gt_take c]
  · have hr : (n - b) % t < t := Nat.mod_lt _ ht
    have e : n = (b + (n - b) % t) + (n - b) / t * t := by
      have := Nat.mod_add_div (n - b) t
      rw [Nat.mul_comm t] at this
      omega
    unfold tmR
    rw [l1, l2, if_neg c, gt_mid hr]
    have e2 := tm_iter F S h0 (n := b + (n - b) % t) (by omega) ((n - b) / t)
    rw [← e, tm_lt (n := b + (n - b) % t) (by omega)] at e2
    unfold tmR at e2
    exact e2.symm
end
end My

namespace My
open PySem PySem.Spec PyProof.Rows L2
def leO : Option Int → Option Int → Prop
  | none, _ => True
  | some _, none => False
  | some x, some y => x ≤ y
theorem leO_refl : ∀ x, leO x x
  | none => trivial
  | some x => Int.le_refl x
theorem leO_trans : ∀ {x y z}, leO x y → leO y z → leO x z
  | none, _, _, _, _ => trivial
  | some _, none, _, h, _ => h.elim
  | some _, some _, none, _, h => h.elim
  | some _, some _, some _, h1, h2 => Int.le_trans h1 h2
theorem upTo_le {t : Int} : ∀ {x y}, leO x y → upTo t y = true → upTo t x = true
  | none, _, _, _ => rfl
  | some _, none, h, _ => h.elim
  | some x, some y, h, u => by
    have h' : x ≤ y := h
    have u' : y ≤ t := of_decide_eq_true u
    exact decide_eq_true (by omega)
theorem prefix_count {t : Int} : ∀ {L : List (Option Int)}, (∀ i j, i ≤ j → j < L.length → leO (gt L i) (gt L j)) → ∀ i, i < L.length → upTo t (gt L i) = decide (i < (L.filter (upTo t)).length)
  | [], _, _, h => nomatch h
  | x :: r, hm, i, hi => by
    have hr : ∀ i j, i ≤ j → j < r.length → leO (gt r i) (gt r j) := fun i j h1 h2 => hm (i + 1) (j + 1) (by omega) (by simp only [List.length_cons]; omega)
    by_cases u : upTo t x = true
    · rw [List.filter_cons_of_pos u]
      cases i with
      | zero =>
        show upTo t x = _
        rw [u]
        exact (decide_eq_true (by simp)).symm
      | succ i =>
        show upTo t (gt r i) = _
        rw [prefix_count hr i (by simpa using hi)]
        simp only [List.length_cons, Nat.add_lt_add_iff_right]
    · have hall : ∀ j, j < (x :: r).length → upTo t (gt (x :: r) j) = false := fun j hj => by
        cases e : upTo t (gt (x :: r) j) with
        | false => rfl
        | true => exact absurd (upTo_le (hm 0 j (Nat.zero_le _) hj) e) u
      have hf : (x :: r).filter (upTo t) = [] := by
        rw [List.filter_eq_nil_iff]
        intro y hy q
        obtain ⟨j, hj, e⟩ := List.getElem_of_mem hy
        have := hall j hj
        rw [gt_lt hj, e, q] at this
        cases this
      rw [hf, hall i hi]
      exact (decide_eq_false (by simp)).symm
section
variable {f a : List (Option Int)} {m : Int}
theorem mono_all (h : ∀ n, leO (tmR f a m n) (tmR f a m (n + 1))) {i j : Nat} (hij : i ≤ j) : leO (tmR f a m i) (tmR f a m j) := by
  obtain ⟨d, rfl⟩ := Nat.le.dest hij
  induction d with
  | zero => exact leO_refl _
  | succ d ih => exact leO_trans (ih (by omega)) (h (i + d))
theorem tm_f {n : Nat} (h : n < f.length) : tmR f a m n = gt f n := if_pos h
theorem tm_a {r : Nat} (q : Nat) (h : r < a.length) : tmR f a m (f.length + (r + q * a.length)) = later1 (q * m) (gt a r) := by
  unfold tmR
  rw [if_neg (by omega), Nat.add_sub_cancel_left, Nat.add_mul_mod_self_right, Nat.mod_eq_of_lt h, Nat.add_mul_div_right _ _ (by omega), Nat.div_eq_of_lt h, Nat.zero_add]
theorem filter_len (t : Int) (L : List (Option Int)) : (L.filter (upTo t)).length ≤ L.length := List.length_filter_le _ _
/-- what count tells -/
theorem cnt_spec {lo time : Int} (hne : 0 < a.length) (m0 : 0 ≤ m) (mono : ∀ i j, i ≤ j → leO (tmR f a m i) (tmR f a m j)) (hlo : gt a 0 = some lo) (h : time < lo ∨ 0 < m) :
    ∃ N : Nat, cntR f a m time = some (N : Int) ∧ ∀ n, upTo time (tmR f a m n) = decide (n < N) := by
  have hS : tmR f a m f.length = some lo := by
    have := tm_a (f := f) (m := m) 0 hne
    rw [Nat.zero_mul, Nat.add_zero, Int.natCast_zero, Int.zero_mul, later1_zero, hlo] at this
    exact this
  have hF : ∀ i j, i ≤ j → j < f.length → leO (gt f i) (gt f j) := fun i j h1 h2 => by
    have := mono i j h1
    rw [tm_f (by omega), tm_f h2] at this
    exact this
  by_cases c : time < lo
  · have hn : ¬ (m = 0 ∧ lo ≤ time) := fun q => by omega
    refine ⟨(f.filter (upTo time)).length, ?_, fun n => ?_⟩
    · unfold cntR
      rw [hlo]
      exact (if_neg hn).trans (if_pos c)
    · by_cases cn : n < f.length
      · rw [tm_f cn]
        exact prefix_count hF n cn
      · have h1 := mono f.length n (by omega)
        rw [hS] at h1
        have h2 : upTo time (tmR f a m n) = false := by
          cases e : upTo time (tmR f a m n) with
          | false => rfl
          | true =>
            have := upTo_le h1 e
            have : lo ≤ time := of_decide_eq_true this
            omega
        rw [h2]
        have := filter_len time f
        exact (decide_eq_false (by omega)).symm
  · have hm : 0 < m := by omega
    have hn : ¬ (m = 0 ∧ lo ≤ time) := fun q => by omega
    have hT0 : 0 ≤ (time - lo) / m := Int.ediv_nonneg (by omega) m0
    obtain ⟨T, hT⟩ := Int.eq_ofNat_of_zero_le hT0
    have hR0 := Int.emod_nonneg (time - lo) (by omega : m ≠ 0)
    have hR1 := Int.emod_lt_of_pos (time - lo) hm
    have hsum := Int.mul_ediv_add_emod (time - lo) m
    rw [hT] at hsum
    generalize hR : (time - lo) % m = R at hR0 hR1 hsum
    have hA : ∀ i j, i ≤ j → j < a.length → leO (gt a i) (gt a j) := fun i j h1 h2 => by
      have := mono (f.length + (i + 0 * a.length)) (f.length + (j + 0 * a.length)) (by omega)
      rw [tm_a 0 (by omega), tm_a 0 h2, Int.natCast_zero, Int.zero_mul, later1_zero, later1_zero] at this
      exact this
    have hbeg := filter_len (lo + R) a
    refine ⟨f.length + (T * a.length + (a.filter (upTo (lo + R))).length), ?_, fun n => ?_⟩
    · unfold cntR
      rw [hlo]
      refine ((if_neg hn).trans (if_neg c)).trans ?_
      rw [hT, hR]
      congr 1
      rw [Int.natCast_add, Int.natCast_add, Int.natCast_mul, Int.add_assoc]
    · by_cases cn : n < f.length
      · have h1 := mono n f.length (by omega)
        rw [hS] at h1
        rw [upTo_le h1 (decide_eq_true (by omega : lo ≤ time))]
        exact (decide_eq_true (by omega)).symm
      · have hr : (n - f.length) % a.length < a.length := Nat.mod_lt _ hne
        have e : n = f.length + ((n - f.length) % a.length + (n - f.length) / a.length * a.length) := by
          have := Nat.mod_add_div (n - f.length) a.length
          rw [Nat.mul_comm a.length] at this
          omega
        generalize (n - f.length) % a.length = r at hr e
        generalize (n - f.length) / a.length = q at e
        have hx0 := hA 0 r (Nat.zero_le _) hr
        have hx1 := mono (f.length + (r + 0 * a.length)) (f.length + (0 + 1 * a.length)) (by omega)
        rw [tm_a 0 hr, tm_a 1 hne, Int.natCast_zero, Int.zero_mul, later1_zero, hlo] at hx1
        rw [hlo] at hx0
        have hpc := prefix_count (t := lo + R) hA r hr
        rw [e, tm_a q hr]
        cases hx : gt a r with
        | none =>
          rw [hx] at hx0
          exact hx0.elim
        | some x =>
          rw [hx] at hx0 hx1 hpc
          have x0 : lo ≤ x := hx0
          have x1 : x ≤ lo + ((1 : Nat) : Int) * m := hx1
          show decide (x + (q : Int) * m ≤ time) = _
          have hpc' : decide (x ≤ lo + R) = decide (r < (a.filter (upTo (lo + R))).length) := hpc
          generalize (a.filter (upTo (lo + R))).length = B at hbeg hpc'
          have hB : x ≤ lo + R ↔ r < B := by
            constructor
            · intro z
              rw [decide_eq_true z] at hpc'
              exact of_decide_eq_true hpc'.symm
            · intro z
              rw [decide_eq_true z] at hpc'
              exact of_decide_eq_true hpc'
          have hiff : (x + (q : Int) * m ≤ time) ↔ (f.length + (r + q * a.length) < f.length + (T * a.length + B)) := by
            have ht : time = lo + (m * (T : Int) + R) := by omega
            rcases Nat.lt_trichotomy q T with g | g | g
            · have k1 : (q + 1) * a.length ≤ T * a.length := Nat.mul_le_mul_right _ g
              have k2 : ((q : Int) + 1) * m ≤ (T : Int) * m := Int.mul_le_mul_of_nonneg_right (by omega) m0
              rw [Nat.succ_mul] at k1
              rw [Int.add_mul, Int.one_mul] at k2
              rw [Int.mul_comm m] at ht
              constructor
              · intro _
                omega
              · intro _
                omega
            · subst g
              rw [Int.mul_comm m] at ht
              constructor
              · intro z
                have := hB.mp (by omega)
                omega
              · intro z
                have := hB.mpr (by omega)
                omega
            · have k1 : (T + 1) * a.length ≤ q * a.length := Nat.mul_le_mul_right _ g
              have k2 : ((T : Int) + 1) * m ≤ (q : Int) * m := Int.mul_le_mul_of_nonneg_right (by omega) m0
              rw [Nat.succ_mul] at k1
              rw [Int.add_mul, Int.one_mul] at k2
              rw [Int.mul_comm m] at ht
              constructor
              · intro _
                omega
              · intro _
                omega
          by_cases z : x + (q : Int) * m ≤ time
          · rw [decide_eq_true z, decide_eq_true (hiff.mp z)]
          · rw [decide_eq_false z, decide_eq_false (fun y => z (hiff.mpr y))]
end
end My

namespace My
open PySem PySem.Spec PyProof.Rows L2
theorem rises_some : ∀ (L : List Int) (l : Int), (∀ x ∈ L, l ≤ x) → L.Pairwise (· ≤ ·) → risesFrom (some l) (L.map some) = true
  | [], _, _, _ => rfl
  | x :: r, l, h, p => by
    have hx := h x List.mem_cons_self
    rw [List.pairwise_cons] at p
    show (if x < l then false else risesFrom (some x) (r.map some)) = true
    rw [if_neg (by omega)]
    exact rises_some r x p.1 p.2
theorem rises_all (L : List Int) (p : L.Pairwise (· ≤ ·)) : risesFrom none (L.map some) = true := by
  cases L with
  | nil => rfl
  | cons x r =>
    rw [List.pairwise_cons] at p
    exact rises_some r x p.1 p.2
theorem rises_none : ∀ (n : Nat) (R : List (Option Int)), risesFrom none (List.replicate n none ++ R) = risesFrom none R
  | 0, _ => rfl
  | n + 1, R => rises_none n R
theorem head_le {L : List Int} (p : L.Pairwise (· ≤ ·)) {lo x : Int} (h : L.head? = some lo) (hx : x ∈ L) : lo ≤ x := by
  cases L with
  | nil => cases h
  | cons y r =>
    have e : y = lo := Option.some.inj h
    subst e
    rw [List.pairwise_cons] at p
    rcases List.mem_cons.mp hx with rfl | q
    · exact Int.le_refl _
    · exact p.1 x q
theorem le_last {L : List Int} (p : L.Pairwise (· ≤ ·)) {hi x : Int} (h : L.getLast? = some hi) (hx : x ∈ L) : x ≤ hi := by
  obtain ⟨ys, rfl⟩ := List.getLast?_eq_some_iff.mp h
  rw [List.pairwise_append] at p
  rcases List.mem_append.mp hx with q | q
  · exact p.2.2 x q hi (List.mem_singleton.mpr rfl)
  · rw [List.mem_singleton.mp q]
    exact Int.le_refl _
section
variable {f a : List (Option Int)} {m : Int}
theorem Shape.ok (S : Shape f a m) : OkRow f a m := by
  obtain ⟨nn, fl, al, lo, hi, rfl, rfl, hp, hlo, hhi, h1, h2, hn, hf, ha, hb⟩ := S.ex
  have hp' := List.pairwise_append.mp hp
  have hal : al ≠ [] := fun e => by
    rw [e] at hlo
    cases hlo
  refine ⟨?_, rises_all al hp'.2.1, fun e => hal (List.map_eq_nil_iff.mp e), Or.inl ⟨lo, hi, ?_, ?_, fun e he => ?_, ?_, h1⟩⟩
  · rw [rises_none]
    exact rises_all fl hp'.1
  · rw [List.head?_map, hlo]
    rfl
  · rw [List.getLast?_map, hhi]
    rfl
  · have := List.mem_of_getLast? he
    rcases List.mem_append.mp this with q | q
    · have := (List.mem_replicate.mp q).2
      cases this
    · obtain ⟨x, hx, e1⟩ := List.mem_map.mp q
      have e2 : x = e := Option.some.inj e1
      rw [← e2]
      exact hp'.2.2 x hx lo (List.mem_of_mem_head? hlo)
  · have := head_le hp'.2.1 hlo (List.mem_of_getLast? hhi)
    omega
theorem Shape.parts (S : Shape f a m) : Parts f a m := by
  obtain ⟨nn, fl, al, lo, hi, rfl, rfl, hp, hlo, hhi, h1, h2, hn, hf, ha, hb⟩ := S.ex
  have hp' := List.pairwise_append.mp hp
  have hle := head_le hp'.2.1 hlo (List.mem_of_getLast? hhi)
  have b1 := hb lo (List.mem_append_right _ (List.mem_of_mem_head? hlo))
  have b2 := hb hi (List.mem_append_right _ (List.mem_of_getLast? hhi))
  refine ⟨fun e => ?_, ?_, ?_, by omega, by omega⟩
  · rw [List.map_eq_nil_iff.mp e] at hlo
    cases hlo
  · rw [List.length_append, List.length_replicate, List.length_map]
    omega
  · rw [List.length_map]
    omega
theorem gt_mapsome {L : List Int} {i : Nat} (h : i < L.length) : gt (L.map some) i = some L[i] := by
  rw [gt_lt (by rw [List.length_map]; exact h), List.getElem_map]
theorem Shape.mono (S : Shape f a m) (n : Nat) : leO (tmR f a m n) (tmR f a m (n + 1)) := by
  have ok := S.ok
  have hne : 0 < a.length := List.length_pos_iff.mpr ok.ne
  obtain ⟨nn, fl, al, lo, hi, rfl, rfl, hp, hlo, hhi, h1, h2, hn, hf, ha, hb⟩ := S.ex
  have hp' := List.pairwise_append.mp hp
  rw [List.length_map] at hne
  have hl : (List.replicate nn none ++ fl.map some).length = nn + fl.length := by rw [List.length_append, List.length_replicate, List.length_map]
  have hla : (al.map some).length = al.length := List.length_map ..
  by_cases c : n + 1 < nn + fl.length + al.length
  · rw [tm_lt (n := n) (by omega), tm_lt (n := n + 1) (by omega)]
    have e : (List.replicate nn none ++ fl.map some ++ al.map some) = List.replicate nn none ++ (fl ++ al).map some := by rw [List.append_assoc, List.map_append]
    rw [e]
    by_cases cn : n < nn
    · have : gt (List.replicate nn none ++ (fl ++ al).map some) n = none := by
        unfold gt
        rw [List.getElem?_append_left (by rw [List.length_replicate]; exact cn), List.getElem?_replicate]
        rw [if_pos cn]
        rfl
      rw [this]
      trivial
    · have g : ∀ i, nn ≤ i → i < nn + (fl ++ al).length → gt (List.replicate nn none ++ (fl ++ al).map some) i = gt ((fl ++ al).map some) (i - nn) := fun i h _ => by
        unfold gt
        rw [List.getElem?_append_right (by rw [List.length_replicate]; exact h), List.length_replicate]
      have hlen : (fl ++ al).length = fl.length + al.length := List.length_append
      rw [g n (by omega) (by omega), g (n + 1) (by omega) (by omega), gt_mapsome (i := n - nn) (by omega), gt_mapsome (i := n + 1 - nn) (by omega)]
      exact List.pairwise_iff_getElem.mp hp (n - nn) (n + 1 - nn) (by omega) (by omega) (by omega)
  · have tma : ∀ i, nn + fl.length ≤ i → tmR (List.replicate nn none ++ fl.map some) (al.map some) m i = later1 (((i - (nn + fl.length)) / al.length : Nat) * m) (gt (al.map some) ((i - (nn + fl.length)) % al.length)) := fun i h => by
      unfold tmR
      rw [hl, hla, if_neg (by omega)]
    by_cases c0 : n < nn + fl.length
    · have : al.length = 0 := by omega
      omega
    · rw [tma n (by omega), tma (n + 1) (by omega)]
      have e1 : n + 1 - (nn + fl.length) = (n - (nn + fl.length)) + 1 := by omega
      rw [e1]
      generalize n - (nn + fl.length) = i
      have hr : i % al.length < al.length := Nat.mod_lt _ hne
      rw [gt_mapsome hr]
      by_cases cr : i % al.length + 1 < al.length
      · have d1 : (i + 1) / al.length = i / al.length := by
          rw [Nat.succ_div, if_neg, Nat.add_zero]
          intro hd
          have := Nat.mod_eq_zero_of_dvd hd
          rw [Nat.add_mod, Nat.mod_eq_of_lt (a := 1) (by omega), Nat.mod_eq_of_lt cr] at this
          omega
        have d2 : (i + 1) % al.length = i % al.length + 1 := by
          rw [Nat.add_mod, Nat.mod_eq_of_lt (a := 1) (by omega), Nat.mod_eq_of_lt cr]
        have hrr : (i + 1) % al.length < al.length := by omega
        rw [gt_mapsome hrr, d1]
        have := List.pairwise_iff_getElem.mp hp'.2.1 (i % al.length) ((i + 1) % al.length) hr hrr (by omega)
        show al[i % al.length] + _ ≤ al[(i + 1) % al.length] + _
        omega
      · have er : i % al.length = al.length - 1 := by omega
        have hd : al.length ∣ i + 1 := by
          refine Nat.dvd_of_mod_eq_zero ?_
          by_cases h1 : al.length = 1
          · rw [h1]
            exact Nat.mod_one _
          · rw [Nat.add_mod, Nat.mod_eq_of_lt (a := 1) (by omega), er, Nat.sub_add_cancel (by omega), Nat.mod_self]
        have d1 : (i + 1) / al.length = i / al.length + 1 := by rw [Nat.succ_div, if_pos hd]
        have d2 : (i + 1) % al.length = 0 := Nat.mod_eq_zero_of_dvd hd
        rw [gt_mapsome (i := (i + 1) % al.length) (by omega), d1]
        have m1 : al[i % al.length] ≤ hi := le_last hp'.2.1 hhi (List.getElem_mem hr)
        have m2 : lo ≤ al[(i + 1) % al.length]'(by omega) := head_le hp'.2.1 hlo (List.getElem_mem _)
        show al[i % al.length] + ((i / al.length : Nat) : Int) * m ≤ al[(i + 1) % al.length]'(by omega) + ((i / al.length + 1 : Nat) : Int) * m
        rw [show ((i / al.length + 1 : Nat) : Int) = ((i / al.length : Nat) : Int) + 1 by omega, Int.add_mul, Int.one_mul]
        omega
/-- the first time of what comes again -/
theorem Shape.first (S : Shape f a m) : ∃ lo, tmR f a m f.length = some lo ∧ lo ≤ 40 := by
  have ok := S.ok
  have hne : 0 < a.length := List.length_pos_iff.mpr ok.ne
  obtain ⟨nn, fl, al, lo, hi, rfl, rfl, hp, hlo, hhi, h1, h2, hn, hf, ha, hb⟩ := S.ex
  have b1 := hb lo (List.mem_append_right _ (List.mem_of_mem_head? hlo))
  refine ⟨lo, ?_, b1.2⟩
  have := tm_a (f := List.replicate nn none ++ fl.map some) (m := m) 0 hne
  rw [Nat.zero_mul, Nat.add_zero, Int.natCast_zero, Int.zero_mul, later1_zero] at this
  rw [this]
  cases al with
  | nil => cases hlo
  | cons x r =>
    cases hlo
    rfl
end
end My

namespace My
open PySem PySem.Spec PyProof.Rows L2
section
variable {f a f' a' : List (Option Int)} {m m' : Int}
theorem Shape.all_some (S : Shape f a m) (n : Nat) (h : f.length ≤ n) : ∃ x, tmR f a m n = some x := by
  obtain ⟨lo, h1, _⟩ := S.first
  have h2 := mono_all S.mono h
  rw [h1] at h2
  cases e : tmR f a m n with
  | none =>
    rw [e] at h2
    exact h2.elim
  | some x => exact ⟨x, rfl⟩
theorem Shape.ne (S : Shape f a m) : 0 < a.length := List.length_pos_iff.mpr S.ok.ne
/-- what is known of a made row's parts -/
structure MadeIs (f a : List (Option Int)) (m : Int) (f' a' : List (Option Int)) (m' : Int) : Prop where
  parts : Parts f' a' m'
  lf : f'.length ≤ f.length
  time : ∀ n, tmR f' a' m' n = tmR f a m n
  lo : ∃ lo, gt a' 0 = some lo
  all : ∀ x ∈ a', x ≠ none
  zero : m' = 0 ↔ m = 0
  rate : lowN m' a'.length = m / (Nat.gcd m.toNat a.length : Nat) ∧ lowD m' a'.length = (a.length : Int) / (Nat.gcd m.toNat a.length : Nat)
theorem made_is (S : Shape f a m) (M : MadeOf f a m f' a' m') : MadeIs f a m f' a' m' := by
  have hne := S.ne
  have pt := S.parts
  have ht := made_times M hne
  obtain ⟨t, b, F, SF, rfl, rfl, rfl⟩ := M
  have t0 := F.fits.pos
  have t1 := F.le
  have b1 := SF.le
  have l1 : ((f ++ a).take b).length = b := by rw [List.length_take, List.length_append]; omega
  have l2 : (((f ++ a).drop b).take t).length = t := by rw [List.length_take, List.length_drop, List.length_append]; omega
  obtain ⟨c, hc⟩ := F.fits.dvd
  have hm := fits_num F.fits hc hne
  have c0 : 0 < c := by
    cases c with
    | zero => omega
    | succ c => omega
  have g0 : 0 ≤ m * t / a.length := Int.ediv_nonneg (Int.mul_nonneg pt.m0 (by omega)) (by omega)
  have g1 : m * t / a.length ≤ m := by
    refine Int.ediv_le_of_le_mul (by omega) ?_
    exact Int.mul_le_mul_of_nonneg_left (by omega) pt.m0
  have some_at : ∀ r, r < t → ∃ x, gt ((f ++ a).drop b |>.take t) r = some x := fun r hr => by
    rw [gt_mid hr, ← tm_lt (f := f) (a := a) (m := m) (by omega)]
    have h1 := tm_iter F SF hne (n := b + r) (by omega) f.length
    obtain ⟨y, hy⟩ := S.all_some (b + r + f.length * t) (by
      have : f.length * 1 ≤ f.length * t := Nat.mul_le_mul_left _ t0
      omega)
    rw [hy] at h1
    cases e : tmR f a m (b + r) with
    | none =>
      rw [e] at h1
      cases h1
    | some x => exact ⟨x, rfl⟩
  refine ⟨⟨fun e => ?_, by have := pt.lf; omega, by have := pt.la; omega, g0, by have := pt.m1; omega⟩, by omega, ht, some_at 0 t0, fun x hx e => ?_, ⟨fun e => ?_, fun e => ?_⟩, ?_⟩
  · rw [e] at l2
    simp only [List.length_nil] at l2
    omega
  · obtain ⟨i, hi, e2⟩ := List.getElem_of_mem hx
    obtain ⟨y, hy⟩ := some_at i (by omega)
    rw [gt_lt hi, e2, e] at hy
    cases hy
  · rw [e, Int.zero_mul] at hm
    exact hm
  · rw [e, Int.zero_mul, Int.zero_ediv]
  · rw [l2]
    generalize m * t / a.length = g at hm g0
    obtain ⟨gn, rfl⟩ := Int.eq_ofNat_of_zero_le g0
    have e1 : m = ((gn * c : Nat) : Int) := by rw [hm, Int.natCast_mul]
    unfold lowN lowD
    rw [e1, hc, Int.toNat_natCast, Int.natAbs_natCast, Int.natAbs_natCast, Nat.gcd_mul_right]
    have p : 0 < Nat.gcd gn t := Nat.gcd_pos_of_pos_right _ t0
    constructor
    · rw [← Int.natCast_ediv, ← Int.natCast_ediv, Nat.mul_div_mul_right _ _ c0]
    · rw [← Int.natCast_ediv, ← Int.natCast_ediv, Nat.mul_div_mul_right _ _ c0]
/-- how many of the first k times are at a time at most -/
theorem many_eq {t : Int} {T : Nat → Option Int} {N : Nat} (h : ∀ n, upTo t (T n) = decide (n < N)) : ∀ k : Nat, (((List.range k).map T).filter (upTo t)).length = min N k
  | 0 => by simp
  | k + 1 => by
    rw [List.range_succ, List.map_append, List.filter_append, List.length_append, many_eq h k]
    show min N k + ([T k].filter (upTo t)).length = _
    by_cases c : k < N
    · have e : upTo t (T k) = true := by rw [h k]; exact decide_eq_true c
      rw [List.filter_cons_of_pos e]
      simp only [List.filter_nil, List.length_cons, List.length_nil]
      omega
    · have e : ¬ upTo t (T k) = true := by
        rw [h k]
        simpa using c
      rw [List.filter_cons_of_neg e]
      simp only [List.filter_nil, List.length_nil]
      omega
theorem count_pos (S : Shape f a m) (I : MadeIs f a m f' a' m') (time : Int) (h : 0 < m) : ∃ N : Nat, cntR f' a' m' time = some (N : Int) ∧ ∀ n, upTo time (tmR f a m n) = decide (n < N) := by
  obtain ⟨lo, hlo⟩ := I.lo
  have hm' : 0 < m' := by
    have := I.parts.m0
    have := I.zero
    omega
  obtain ⟨N, h1, h2⟩ := cnt_spec (f := f') (time := time) (List.length_pos_iff.mpr I.parts.ne) I.parts.m0 (fun i j hij => by rw [I.time, I.time]; exact mono_all S.mono hij) hlo (Or.inr hm')
  exact ⟨N, h1, fun n => by rw [← I.time]; exact h2 n⟩
theorem count_zero (S : Shape f a m) (I : MadeIs f a m f' a' m') (time : Int) (h : m = 0) : ∃ lo, (∀ n, f.length ≤ n → tmR f a m n = some lo) ∧ lo ≤ 40 ∧ (lo ≤ time → cntR f' a' m' time = none) ∧
    (time < lo → ∃ N : Nat, N ≤ f.length ∧ cntR f' a' m' time = some (N : Int) ∧ ∀ n, upTo time (tmR f a m n) = decide (n < N)) := by
  obtain ⟨lo, hlo⟩ := I.lo
  have hm' : m' = 0 := I.zero.mpr h
  have hn' := List.length_pos_iff.mpr I.parts.ne
  -- all times from the made row's begin on are lo
  have key : ∀ q : Nat, tmR f a m (f'.length + q * a'.length) = some lo := fun q => by
    have := tm_a (f := f') (m := m') q hn'
    rw [hm', Int.mul_zero, later1_zero, hlo, Nat.zero_add, ← hm', I.time] at this
    exact this
  have hall : ∀ n, f'.length ≤ n → tmR f a m n = some lo := fun n hn => by
    have h0 := key 0
    have h1 := key n
    rw [Nat.zero_mul, Nat.add_zero] at h0
    have l1 := mono_all S.mono hn
    have hle : n ≤ f'.length + n * a'.length := by
      have : n * 1 ≤ n * a'.length := Nat.mul_le_mul_left _ hn'
      omega
    have l2 := mono_all S.mono hle
    rw [h0] at l1
    rw [h1] at l2
    cases e : tmR f a m n with
    | none =>
      rw [e] at l1
      exact l1.elim
    | some x =>
      rw [e] at l1 l2
      have l1' : lo ≤ x := l1
      have l2' : x ≤ lo := l2
      rw [show x = lo by omega]
  have hf := I.lf
  obtain ⟨lo2, e1, e2⟩ := S.first
  rw [hall f.length (by omega)] at e1
  have e3 : lo = lo2 := Option.some.inj e1
  refine ⟨lo, fun n hn => hall n (by omega), by omega, fun hl => ?_, fun hl => ?_⟩
  · unfold cntR
    rw [hlo]
    exact if_pos ⟨hm', hl⟩
  · obtain ⟨N, h1, h2⟩ := cnt_spec (f := f') (time := time) hn' I.parts.m0 (fun i j hij => by rw [I.time, I.time]; exact mono_all S.mono hij) hlo (Or.inl hl)
    have h3 : ∀ n, upTo time (tmR f a m n) = decide (n < N) := fun n => by rw [← I.time]; exact h2 n
    refine ⟨N, ?_, h1, h3⟩
    have := h3 f.length
    rw [hall f.length (by omega)] at this
    have h4 : upTo time (some lo) = false := decide_eq_false (by omega)
    rw [h4] at this
    have := of_decide_eq_false this.symm
    omega
end
end My

namespace My
open PySem PySem.Spec PyProof.Rows L2
local macro_rules | `(tactic| walk_at "side") => `(tactic| first | (dsimp only; omega) | exact ⟨by omega, by omega⟩ | exact Or.inl ⟨by omega, by omega⟩ | exact Or.inr ⟨by omega, by omega⟩ | decide)
local macro_rules | `(tactic| walk_at "sq") => `(tactic| first | assumption | exact SqL.of (by assumption) | exact SqT.of (by assumption) | (refine L2.Same.seq (by assumption) ?_; walk_at "sq") | (refine L2.Same.seqT (by assumption) ?_; walk_at "sq") | exact Or.inl (by walk_at "sq") | exact Or.inr (by walk_at "sq"))
local macro_rules | `(tactic| walk_at "1") => `(tactic| first
  | refine ⟨_, rfl, iteT ?_⟩
  | refine ⟨_, rfl, iteF ?_⟩
  | refine ⟨_, rfl, ?_⟩
  | refine ⟨_, _, rfl, rfl, (by walk_at "side"), ?_⟩
  | refine ⟨_, _, rfl, rfl, ?_⟩
  | refine ⟨_, _, _, _, true, rfl, .ty _, .base (.int _), kit_ty (a := "int") (by decide +kernel), ?_⟩
  | refine ⟨_, _, _, _, false, rfl, .ty _, .base (.int _), kit_ty (a := "int") (by decide +kernel), ?_⟩
  | refine ⟨_, _, rfl, (by walk_at "sq"), ?_⟩
  | refine ⟨_, _, _, _, rfl, rfl, (by walk_at "sq"), (by first | rfl | assumption), ?_⟩
  | refine Or.inl ⟨_, _, _, _, rfl, rfl, (by walk_at "sq"), (by first | rfl | assumption), ?_⟩
  | refine Or.inr (Or.inl ⟨_, _, _, _, rfl, rfl, (by walk_at "sq"), (by first | rfl | assumption), ?_⟩)
  | refine ⟨_, _, rfl, Or.inl ⟨(by walk_at "sq"), ?_⟩⟩
  | refine ⟨rfl, ?_⟩
  | refine iteT ?_
  | refine iteF ?_
  | refine ⟨_, _, _, _, _, rfl, (by assumption), (by assumption), (by assumption), (by assumption), ?_⟩
  | refine Or.inl ⟨_, rfl, ?_⟩
  | refine Or.inr ⟨_, rfl, ?_⟩
  | refine ⟨_, _, rfl, (by walk_at "side"), ?_⟩
  | refine ⟨_, _, rfl, ?_⟩)
local macro_rules | `(tactic| walk_at "fld") => `(tactic| skip)
local macro_rules | `(tactic| walk_at "s") => `(tactic| repeat walk_at "1")
local macro_rules | `(tactic| walk_at "size") => `(tactic| first | exact Nat.le_of_ble_eq_true rfl | (simp only [List.length_map, List.length_append, List.length_cons, List.length_nil]; omega))
local macro_rules | `(tactic| walk_at "new") => `(tactic| (first | refine ⟨(by walk_at "size"), fun p hp => ?_⟩ | refine fun p hp => ?_); (generalize hq : upd _ p _ = H1); (obtain ⟨s, e⟩ := new_facts hp hq); clear hq)

def reprO : Option Int → Str
  | none => "None"
  | some i => toString i
theorem call_reprO {X : Cx} : CallR X (.builtin "repr") (fun xs H Q => ∃ t : Option Int, xs = [ov t] ∧ (∀ i, t = some i → i.natAbs.log2 < 1920) ∧ Q (.str (reprO t)) H) := by
  intro pins s σ H xs us Q I r h
  obtain ⟨t, rfl, hz, q⟩ := h
  obtain ⟨u, rfl, rx⟩ := vals1 r
  cases t with
  | none =>
    cases (show u = Value.none from rx)
    exact PySem.P.repr_of_none ⟨.str _, H, I.tok _, ⟨_, rfl⟩, q⟩
  | some i =>
    obtain ⟨k, rfl⟩ := (show ∃ t, u = Value.int i t from rx)
    exact PySem.P.repr_of_int (hz i rfl) ⟨.str _, H, I.tok _, ⟨_, rfl⟩, q⟩
section
variable {P : Program} {w : World} {K : PySem.W.Frag} {mg : Str → Option Value} {base : Heap} {C : Addr}
/-- a row of one thing -/
theorem made_one {x : Option Int} {f' a' : List (Option Int)} {m' : Int} (M : MadeOf [] [x] 0 f' a' m') : f' = [] ∧ a' = [x] ∧ m' = 0 := by
  obtain ⟨t, b, F, S, rfl, rfl, rfl⟩ := M
  have h1 := F.fits.pos
  have h2 := F.le
  have h3 := S.le
  simp only [List.length_cons, List.length_nil] at h2 h3
  have ht : t = 1 := by omega
  have hb : b = 0 := by omega
  subst ht hb
  exact ⟨rfl, rfl, by rw [Int.zero_mul, Int.zero_ediv]⟩
def spOne (C : Addr) (x : Option Int) : Sp := fun vs H Q _ => vs = [] ∧ ∀ H' q, Same H H' → H q = none → RowAt C H' q [] [x] 0 → Q (.ref q) H'
abbrev s_unit : Stmt := topS 23
theorem sc_unit : FnScope [] [] (defScope s_unit) := ⟨rfl, rfl, rfl, by decide +kernel, rfl, by decide +kernel, by decide +kernel⟩
theorem ok_unit (D : Df K mg "unit" s_unit []) (o_Row : Mks P w K mg base "Row" C 4 ["self", "first", "again", "more"] (spInit C)) : Own P w K mg base "unit" 6 [] (spOne C (some 0)) := by
  refine D.own sc_unit (fun vs H Q E h => ?_) (fun fa cdv A outer s H vs Q E hr h => ?_)
  · obtain ⟨rfl, _⟩ := h
    rfl
  · obtain ⟨rfl, k⟩ := h
    refine ⟨_, (pss_one (ps_ret (pe_mks o_Row (hr.mono (by decide)) (pa_cons (pe_tup pa_nil) (pa_cons (pe_tup (pa_cons pe_int pa_nil)) (pa_cons pe_int pa_nil)))))), ?_⟩
    walk_at "new"
    rename_i p1 n1 H1 s1 e1
    walk_at "s"
    walk_at "new"
    rename_i p2 n2 H2 s2 e2
    walk_at "s"
    intro x dx nx ndx nex
    have sx : Same H2 (upd (upd H2 dx (.own x)) x (.ins C dx [])) := fun b o e => by
      rw [upd_ne (ne_of_none e nx), upd_ne (ne_of_none e ndx)]
      exact e
    refine ⟨H2, x, dx, p1, p2, [], [some 0], 0, rfl, nx, sx, upd_same, Or.inr (s2 _ _ e1), Or.inr e2, ?_, by decide, by decide, by decide, by decide, fun H' f' a' m' s3 r3 mo => ⟨rfl, ?_⟩⟩
    · refine ⟨rfl, rfl, fun z => (nomatch z), ?_⟩
      first
        | exact Or.inl ⟨0, 0, rfl, rfl, fun e he => (nomatch he), by decide, by decide⟩
        | exact Or.inr ⟨rfl, rfl, Or.inl rfl, rfl⟩
    · obtain ⟨rfl, rfl, rfl⟩ := made_one mo
      exact k _ _ (s1.trans (s2.trans s3)) (s1.free (s2.free nx)) r3
abbrev s_empty : Stmt := topS 24
theorem sc_empty : FnScope [] [] (defScope s_empty) := ⟨rfl, rfl, rfl, by decide +kernel, rfl, by decide +kernel, by decide +kernel⟩
theorem ok_empty (D : Df K mg "empty" s_empty []) (o_Row : Mks P w K mg base "Row" C 4 ["self", "first", "again", "more"] (spInit C)) : Own P w K mg base "empty" 6 [] (spOne C none) := by
  refine D.own sc_empty (fun vs H Q E h => ?_) (fun fa cdv A outer s H vs Q E hr h => ?_)
  · obtain ⟨rfl, _⟩ := h
    rfl
  · obtain ⟨rfl, k⟩ := h
    refine ⟨_, (pss_one (ps_ret (pe_mks o_Row (hr.mono (by decide)) (pa_cons (pe_tup pa_nil) (pa_cons (pe_tup (pa_cons pe_non pa_nil)) (pa_cons pe_int pa_nil)))))), ?_⟩
    walk_at "new"
    rename_i p1 n1 H1 s1 e1
    walk_at "s"
    walk_at "new"
    rename_i p2 n2 H2 s2 e2
    walk_at "s"
    intro x dx nx ndx nex
    have sx : Same H2 (upd (upd H2 dx (.own x)) x (.ins C dx [])) := fun b o e => by
      rw [upd_ne (ne_of_none e nx), upd_ne (ne_of_none e ndx)]
      exact e
    refine ⟨H2, x, dx, p1, p2, [], [none], 0, rfl, nx, sx, upd_same, Or.inr (s2 _ _ e1), Or.inr e2, ?_, by decide, by decide, by decide, by decide, fun H' f' a' m' s3 r3 mo => ⟨rfl, ?_⟩⟩
    · refine ⟨rfl, rfl, fun z => (nomatch z), ?_⟩
      first
        | exact Or.inl ⟨0, 0, rfl, rfl, fun e he => (nomatch he), by decide, by decide⟩
        | exact Or.inr ⟨rfl, rfl, Or.inl rfl, rfl⟩
    · obtain ⟨rfl, rfl, rfl⟩ := made_one mo
      exact k _ _ (s1.trans (s2.trans s3)) (s1.free (s2.free nx)) r3
end
end My

namespace My
open PySem PySem.Spec PyProof.Rows L2
theorem log_small {n : Nat} (h : n < 2 ^ 100) : n.log2 < 1920 := by
  by_cases e : n = 0
  · subst e
    decide
  · exact (Nat.log2_lt e).mpr (Nat.lt_of_lt_of_le h (Nat.pow_le_pow_right (by decide) (by decide)))
section
variable {f a f' a' : List (Option Int)} {m m' : Int}
theorem Shape.lf5 (S : Shape f a m) : f.length ≤ 5 := by
  obtain ⟨nn, fl, al, lo, hi, rfl, rfl, hp, hlo, hhi, h1, h2, hn, hf, ha, hb⟩ := S.ex
  rw [List.length_append, List.length_replicate, List.length_map]
  omega
theorem last90 (T : Nat → Option Int) {x : Int} (h : T 89 = some x) : atI (((List.range 90).map T).map ov) (-1) = some (.int x) := by
  refine atI_neg1 ?_
  rw [last_map, show (List.range 90) = List.range 89 ++ [89] from List.range_succ (n := 89), List.map_append]
  show ((List.map T (List.range 89) ++ [T 89]).getLast?).map ov = _
  rw [List.getLast?_concat, h]
  rfl
theorem many_le (T : Nat → Option Int) (t : Int) : (((List.range 90).map T).filter (upTo t)).length ≤ 90 := by
  have := filter_len t ((List.range 90).map T)
  rw [List.length_map, List.length_range] at this
  exact this
theorem due_ok (S : Shape f a m) (I : MadeIs f a m f' a' m') {time x89 : Int} {MV : Nat} (hMV : (((List.range 90).map (tmR f a m)).filter (upTo time)).length = MV) (h89 : tmR f a m 89 = some x89) (hno : ¬ (80 < MV ∧ 0 < m)) :
    cntR f' a' m' time = if m = 0 ∧ x89 ≤ time then none else if 80 < MV then none else some (MV : Int) := by
  have hl := S.lf5
  have m0 := S.parts.m0
  by_cases h : m = 0
  · obtain ⟨lo, h1, h2, h3, h4⟩ := count_zero S I time h
    rw [h1 89 (by omega)] at h89
    have e : lo = x89 := Option.some.inj h89
    subst e
    by_cases hle : lo ≤ time
    · rw [if_pos ⟨h, hle⟩]
      exact h3 hle
    · obtain ⟨N, n1, n2, n3⟩ := h4 (by omega)
      rw [many_eq n3] at hMV
      rw [if_neg (fun q => hle q.2), if_neg (by omega), n2]
      congr 2
      omega
  · obtain ⟨N, n1, n2⟩ := count_pos S I time (by omega)
    rw [many_eq n2] at hMV
    rw [if_neg (fun q => h q.1), if_neg (by omega), n1]
    congr 2
    omega
theorem far_ok (S : Shape f a m) (I : MadeIs f a m f' a' m') (big : Int) (hb : 40 ≤ big) : (m = 0 → cntR f' a' m' big = none) ∧
    (m ≠ 0 → ∃ N : Nat, cntR f' a' m' big = some ((N + 1 : Nat) : Int) ∧ ∃ x y, tmR f a m N = some x ∧ x ≤ big ∧ tmR f a m (N + 1) = some y ∧ big < y) := by
  constructor
  · intro h
    obtain ⟨lo, h1, h2, h3, h4⟩ := count_zero S I big h
    exact h3 (by omega)
  · intro h
    have m0 := S.parts.m0
    obtain ⟨N, n1, n2⟩ := count_pos S I big (by omega)
    obtain ⟨lo, e1, e2⟩ := S.first
    have h3 := n2 f.length
    rw [e1, show upTo big (some lo) = true from decide_eq_true (by omega)] at h3
    have h4 : f.length < N := of_decide_eq_true h3.symm
    cases N with
    | zero => omega
    | succ N =>
      obtain ⟨x, hx⟩ := S.all_some N (by omega)
      obtain ⟨y, hy⟩ := S.all_some (N + 1) (by omega)
      have h5 := n2 N
      have h6 := n2 (N + 1)
      rw [hx] at h5
      rw [hy] at h6
      have h5' : decide (x ≤ big) = true := by
        show upTo big (some x) = true
        rw [h5]
        exact decide_eq_true (Nat.lt_succ_self N)
      have h6' : decide (y ≤ big) = false := by
        show upTo big (some y) = false
        rw [h6]
        exact decide_eq_false (Nat.lt_irrefl _)
      have h7 := of_decide_eq_true h5'
      have h8 := of_decide_eq_false h6'
      exact ⟨N, n1, x, y, hx, h7, hy, by omega⟩
end
end My

namespace My
open PySem PySem.Spec PyProof.Rows L2
local macro_rules | `(tactic| walk_at "side") => `(tactic| first | (dsimp only; omega) | exact ⟨by omega, by omega⟩ | exact Or.inl ⟨by omega, by omega⟩ | exact Or.inr ⟨by omega, by omega⟩ | decide)
local macro_rules | `(tactic| walk_at "sq") => `(tactic| first | assumption | exact SqL.of (by assumption) | exact SqT.of (by assumption) | (refine L2.Same.seq (by assumption) ?_; walk_at "sq") | (refine L2.Same.seqT (by assumption) ?_; walk_at "sq") | exact Or.inl (by walk_at "sq") | exact Or.inr (by walk_at "sq"))
local macro_rules | `(tactic| walk_at "1") => `(tactic| first
  | refine ⟨_, rfl, iteT ?_⟩
  | refine ⟨_, rfl, iteF ?_⟩
  | refine ⟨_, rfl, ?_⟩
  | refine ⟨_, _, rfl, rfl, (by walk_at "side"), ?_⟩
  | refine ⟨_, _, rfl, rfl, ?_⟩
  | refine ⟨_, _, _, _, true, rfl, .ty _, .base (.int _), kit_ty (a := "int") (by decide +kernel), ?_⟩
  | refine ⟨_, _, _, _, false, rfl, .ty _, .base (.int _), kit_ty (a := "int") (by decide +kernel), ?_⟩
  | refine ⟨_, _, rfl, (by walk_at "sq"), ?_⟩
  | refine ⟨_, _, _, _, rfl, rfl, (by walk_at "sq"), (by first | rfl | assumption), ?_⟩
  | refine Or.inl ⟨_, _, _, _, rfl, rfl, (by walk_at "sq"), (by first | rfl | assumption), ?_⟩
  | refine Or.inr (Or.inl ⟨_, _, _, _, rfl, rfl, (by walk_at "sq"), (by first | rfl | assumption), ?_⟩)
  | refine ⟨_, _, rfl, Or.inl ⟨(by walk_at "sq"), ?_⟩⟩
  | refine ⟨rfl, ?_⟩
  | refine iteT ?_
  | refine iteF ?_
  | refine ⟨_, _, _, _, _, rfl, (by assumption), (by assumption), (by assumption), (by assumption), ?_⟩
  | refine ⟨_, _, _, rfl, (by assumption), rfl, ?_⟩
  | refine Or.inl ⟨_, rfl, ?_⟩
  | refine Or.inr ⟨_, rfl, ?_⟩
  | refine ⟨_, _, rfl, (by walk_at "side"), ?_⟩
  | refine ⟨_, _, rfl, ?_⟩)
local macro_rules | `(tactic| walk_at "fld") => `(tactic| skip)
local macro_rules | `(tactic| walk_at "s") => `(tactic| repeat walk_at "1")
local macro_rules | `(tactic| walk_at "size") => `(tactic| first | exact Nat.le_of_ble_eq_true rfl | (simp only [List.length_map, List.length_append, List.length_cons, List.length_nil]; omega))
local macro_rules | `(tactic| walk_at "new") => `(tactic| (first | refine ⟨(by walk_at "size"), fun p hp => ?_⟩ | refine fun p hp => ?_); (generalize hq : upd _ p _ = H1); (obtain ⟨s, e⟩ := new_facts hp hq); clear hq)
theorem RowAt.bx {C b p : Addr} {H H' : Hp} {f a : List (Option Int)} {m : Int} (h : RowAt C H p f a m) (hb : BoxAt H b) (s : Bx b H H') : RowAt C H' p f a m := by
  obtain ⟨dx, pf, pa, h1, h2, h3⟩ := h
  obtain ⟨x, y, z, x0, e⟩ := hb
  have n1 : p ≠ b := fun q => by rw [q, e] at h1; cases h1
  have n2 : pf ≠ b := fun q => by rw [q, e] at h2; cases h2
  have n3 : pa ≠ b := fun q => by rw [q, e] at h3; cases h3
  exact ⟨dx, pf, pa, s _ _ n1 h1, s _ _ n2 h2, s _ _ n3 h3⟩
theorem eqv_pair (x y : Int) : PyData.eqv (.tuple [.int x, .int y]) (.tuple [.int x, .int y]) = true := by
  show (x == x && (y == y && true)) = true
  simp

/-- a stronger reading -/
theorem pss_pre {X : Cx} {ss : List Stmt} {t u : TS} (h : PSs X ss t) (i : ∀ D σ H, u D σ H → t D σ H) : PSs X ss u := ⟨fun pins s σ H D I q => h.run pins s σ H D I (i D σ H q)⟩
def forBody (s : Stmt) : List Stmt := match s with
  | .For _ _ b _ _ => b
  | _ => []
def nth (l : List Stmt) (i : Nat) : Stmt := l.getD i (.Pass ⟨0, 0, 0, 0⟩)
abbrev s_law : Stmt := topS 36
theorem sc_law : FnScope ["script", "k", "box", "turn", "told", "made", "size", "by", "some", "more", "time", "many", "due", "far", "thing"] ["script"] (defScope s_law) := ⟨rfl, rfl, rfl, by decide +kernel, rfl, by decide +kernel, by decide +kernel⟩

abbrev turnBody : List Stmt := forBody (nth (forBody (nth (defBody s_law) 0)) 1)
abbrev moreBody : List Stmt := forBody (nth turnBody 5)
section
variable {P : Program} {w : World} {K : PySem.W.Frag} {mg : Str → Option Value} {base : Heap} {C : Addr} {fa : Addr} {cdv : Value} {A : Around} {outer : List Env} {s : Shared} {H : Hp} {E : XK}
structure PreMore (C b pt q sm : Addr) (f aa f' a' : List (Option Int)) (mn : Nat) (m' : Int) (H8 : Hp) : Prop where
  box : BoxAt H8 b
  told : ToldB b H8 pt f aa mn
  made : RowAt C H8 q f' a' m'
  lst : H8 sm = some (.lst (((List.range 90).map (tmR f aa mn)).map ov))
  nsm : sm ≠ b
  shape : Shape f aa mn
  is_ : MadeIs f aa mn f' a' m'
def tMore (C : Addr) : TS := fun D σ H8 => ∃ (b pt q sm : Addr) (f aa f' a' : List (Option Int)) (mn : Nat) (m' : Int) (y0 y1 y3 y6 y7 y9 y10 y11 y12 y13 y14 : Option V), σ = [y0, y1, some (.ref b), y3, some (.ref pt), some (.ref q), y6, y7, some (.ref sm), y9, y10, y11, y12, y13, y14] ∧
  PreMore C b pt q sm f aa f' a' mn m' H8 ∧ ∀ (w9 w10 w11 w12 : Option V) (H' : Hp), Bx b H8 H' → BoxAt H' b → D.nx [y0, y1, some (.ref b), y3, some (.ref pt), some (.ref q), y6, y7, some (.ref sm), w9, w10, w11, w12, y13, y14] H' ∧ D.ct [y0, y1, some (.ref b), y3, some (.ref pt), some (.ref q), y6, y7, some (.ref sm), w9, w10, w11, w12, y13, y14] H'
set_option maxHeartbeats 8000000 in
theorem blk_more (T : Txt mg) (R : RowCls K mg C) (o_law_take : Own P w K mg base "_law_take" 1 ["box", "many"] spTake) (o_count : Mth P w K mg base C "count" 2 ["self", "time"] (spCount C)) (hr : Room 7 (A.deeper (envOfC "law" (defScope s_law) s.heap.objs.size fa cdv))) :
    PSs (cxOf CX0 P w K mg base ["script", "k", "box", "turn", "told", "made", "size", "by", "some", "more", "time", "many", "due", "far", "thing"] "law" (defScope s_law) fa cdv A outer s H E).nox moreBody (tMore C) := by
  refine pss_pre (pss_cons (ps_set (i := 10) sc_law.nd rfl (Or.inr rfl) (pe_op op_sub (pe_own o_law_take (hr.mono (by decide)) (pa_cons (pv 2) (pa_cons pe_int pa_nil))) pe_int))
              (pss_cons (ps_set (i := 11) sc_law.nd rfl (Or.inl rfl) (pe_callB call_len_seq (by rfl) T.len PySem.boot_len (pa_cons (pe_lc (own := [("thing", 14)]) (g := gName 14) (tt := (tOr (tTest (tOp _ (tVar 14) (tC .non))) (tTest (tOp _ (tVar 14) (tVar 10))))) rfl sc_law.nd (pi_list (pv 8)) (blkOk_by (own := [("thing", 14)]) (N := ["script", "k", "box", "turn", "told", "made", "size", "by", "some", "more", "time", "many", "due", "far", "thing"]) (sc := defScope s_law) (by decide +kernel)) (fun _ _ _ _ _ => (pg_name (i := 14) sc_law.nd rfl (Or.inl rfl))) (fun _ _ _ _ _ => (pts_one (PW.pt (pw_or (pt_cmpR op_isN (pv 14) pe_non (nomark _)) (pw_or1 (pt_cmpR op_le (pv 14) (pv 10) (nomark _))))))) (fun _ _ _ _ _ => (pv 14))) pa_nil)))
              (C8.pss_cut (ps_set (i := 12) sc_law.nd rfl (Or.inl rfl) (pe_ifExp (pt_cmpR op_gt (pv 11) pe_int (nomark _)) pe_non (pv 11)))
              (C8.pss_cut (ps_if (PW.pt (pw_and (pt_cmpR op_eq (pe_ix ix_tup (pv 4) pe_int (fun _ _ => rfl)) pe_int (nomark _)) (pw_and1 (pt_cmpR op_le (pe_ix ix_list (pv 8) (pe_un un_neg pe_int) (fun _ _ => rfl)) (pv 10) (nomark _)))))
                (pss_one (ps_set (i := 12) sc_law.nd rfl (Or.inl rfl) pe_non))
                pss_nil)
              (C8.pss_cut (ps_if (PW.pt (pw_and (pt_cmpR op_gt (pv 11) pe_int (nomark _)) (pw_and1 (pt_cmpR op_gt (pe_ix ix_tup (pv 4) pe_int (fun _ _ => rfl)) pe_int (nomark _)))))
                (pss_one ps_continue)
                pss_nil)
              (pss_one (ps_if (pt_cmpR op_ne (pe_callB call_reprO (by rfl) T.repr (by decide +kernel) (pa_cons (pe_mth R.cl o_count (hr.mono (by decide)) (pv 5) (pa_cons (pv 10) pa_nil)) pa_nil)) (pe_callB call_reprO (by rfl) T.repr (by decide +kernel) (pa_cons (pv 12) pa_nil)) (nomark _))
                (pss_one (ps_ret pe_bl))
                pss_nil))))))) ?_
  rintro D σ H8 ⟨b, pt, q, sm, f, aa, f', a', mn, m', y0, y1, y3, y6, y7, y9, y10, y11, y12, y13, y14, rfl, pre, kk⟩
  have h1000 : 1000 < sizeLine := small1000 (Nat.le_refl _)
  have hb8 := pre.box
  have told8 := pre.told
  have hq8 := pre.made
  have esm8 := pre.lst
  have smb := pre.nsm
  have shape := pre.shape
  have I := pre.is_
  walk_at "s"
  refine ⟨by decide, hb8, fun H9 n9 hn9 s9 hb9 => ?_⟩
  have told9 := told8.bx s9
  have hq9 := hq8.bx hb8 s9
  have esm9 := s9 _ _ smb esm8
  walk_at "s"
  have hn9' : n9 < 50 := hn9
  refine ⟨⟨_, SqL.of esm9⟩, fun L nL => lc_seq (seqIt_l (SqL.of esm9)) (fun i H' => Same H9 H' ∧ H' L = some (.lst (((((List.range 90).map (tmR f aa mn)).take i).filter (upTo ((n9 : Int) - 8))).map ov))) ⟨same_upd nL, upd_same⟩ (fun i H'' q => q.1) ?_ ?_⟩
  · rintro u x H10 hu ⟨s10, e10⟩
    obtain ⟨y, hy, rfl⟩ := get_map hu
    have hz : (((((List.range 90).map (tmR f aa mn)).take u).filter (upTo ((n9 : Int) - 8))).map ov).length < sizeLine := by
      rw [List.length_map]
      have h1 := filter_len ((n9 : Int) - 8) (((List.range 90).map (tmR f aa mn)).take u)
      rw [List.length_take, List.length_map, List.length_range] at h1
      omega
    have fin1 : upTo ((n9 : Int) - 8) y = true → Same H9 (upd H10 L (.lst ((((((List.range 90).map (tmR f aa mn)).take u).filter (upTo ((n9 : Int) - 8))).map ov) ++ [ov y]))) ∧ (upd H10 L (.lst ((((((List.range 90).map (tmR f aa mn)).take u).filter (upTo ((n9 : Int) - 8))).map ov) ++ [ov y]))) L = some (.lst (((((List.range 90).map (tmR f aa mn)).take (u + 1)).filter (upTo ((n9 : Int) - 8))).map ov)) := fun h => by
      refine ⟨s10.upd1 nL, ?_⟩
      rw [upd_same, take_succ_filter _ hy, if_pos h, List.map_append]
      rfl
    have fin2 : upTo ((n9 : Int) - 8) y = false → Same H9 H10 ∧ H10 L = some (.lst (((((List.range 90).map (tmR f aa mn)).take (u + 1)).filter (upTo ((n9 : Int) - 8))).map ov)) := fun h => by
      refine ⟨s10, ?_⟩
      rw [take_succ_filter _ hy, h]
      exact e10
    cases y with
    | none =>
      walk_at "s"
      exact ⟨_, e10, hz, fin1 rfl⟩
    | some y =>
      walk_at "s"
      refine ite2 (fun c3 => ?_) (fun c3 => ?_)
      · walk_at "s"
        exact ⟨_, e10, hz, fin1 c3⟩
      · walk_at "s"
        exact fin2 (Bool.eq_false_iff.mpr c3)
  · rintro H10 ⟨s10, e10⟩
    rw [show (((List.range 90).map (tmR f aa mn)).map ov).length = ((List.range 90).map (tmR f aa mn)).length from List.length_map .., List.take_length] at e10
    have told10 := told9.bx (Bx.of s10)
    have hq10 := s10.row hq9
    have esm10 := s10 _ _ esm9
    have hb10 := hb9.same s10
    have B10 : Bx b H8 H10 := s9.trans (Bx.of s10)
    have emv : ((((List.range 90).map (tmR f aa mn)).filter (upTo ((n9 : Int) - 8))).map ov).length = (((List.range 90).map (tmR f aa mn)).filter (upTo ((n9 : Int) - 8))).length := List.length_map ..
    walk_at "s"
    generalize hMV : (((List.range 90).map (tmR f aa mn)).filter (upTo ((n9 : Int) - 8))).length = MV at emv
    rw [emv]
    obtain ⟨x89, h89⟩ := shape.all_some 89 (by have := shape.lf5; omega)
    have hlast := last90 (tmR f aa mn) h89
    have hMV90 : MV ≤ 90 := by
      rw [← hMV]
      exact many_le _ _
    obtain ⟨pf10, pa10, _, _, _, t101, t102, t103⟩ := id told10
    obtain ⟨dx10, qf10, qa10, hq101, hq102, hq103⟩ := id hq10
    refine ⟨fun σ' H' => ∃ y9 : Option V, σ' = [y0, y1, some (.ref b), y3, some (.ref pt), some (.ref q), y6, y7, some (.ref sm), y9, some (.int ((n9 : Int) - 8)), some (.int (MV : Nat)), some (ov (if 80 < MV then none else some (MV : Int))), y13, y14] ∧ H' = H10, ?_, ?_⟩
    · walk_at "s"
      refine ite2 (fun c => ?_) (fun c => ?_)
      · have c' : 80 < MV := by
          have := of_decide_eq_true c
          omega
        rw [if_pos c']
        exact ⟨_, rfl, rfl⟩
      · have c' : ¬ 80 < MV := fun q => c (decide_eq_true (by omega))
        rw [if_neg c']
        walk_at "s"
        first | rfl | exact ⟨rfl, rfl⟩
    · rintro σ' H' ⟨w9, rfl, rfl⟩
      refine ⟨fun σ' H'' => ∃ y9 : Option V, σ' = [y0, y1, some (.ref b), y3, some (.ref pt), some (.ref q), y6, y7, some (.ref sm), y9, some (.int ((n9 : Int) - 8)), some (.int (MV : Nat)), some (ov (if (mn : Int) = 0 ∧ x89 ≤ ((n9 : Int) - 8) then none else if 80 < MV then none else some (MV : Int))), y13, y14] ∧ H'' = H', ?_, ?_⟩
      · walk_at "s"
        refine ite2 (fun c => ?_) (fun c => ?_)
        · have c' : (mn : Int) = 0 := V.int.inj (of_decide_eq_true c)
          walk_at "s"
          rw [h89]
          walk_at "s"
          refine ite2 (fun c2 => ?_) (fun c2 => ?_)
          · have c2' := of_decide_eq_true c2
            rw [if_pos ⟨c', c2'⟩]
            exact ⟨_, rfl, rfl⟩
          · rw [if_neg (fun q => c2 (decide_eq_true q.2))]
            exact ⟨_, rfl, rfl⟩
        · rw [if_neg (fun q => c (decide_eq_true (congrArg V.int q.1)))]
          exact ⟨_, rfl, rfl⟩
      · rintro σ' H'' ⟨v9, rfl, rfl⟩
        refine ⟨fun σ' H1 => σ' = [y0, y1, some (.ref b), y3, some (.ref pt), some (.ref q), y6, y7, some (.ref sm), v9, some (.int ((n9 : Int) - 8)), some (.int (MV : Nat)), some (ov (if (mn : Int) = 0 ∧ x89 ≤ ((n9 : Int) - 8) then none else if 80 < MV then none else some (MV : Int))), y13, y14] ∧ H1 = H'' ∧ ¬ (80 < MV ∧ 0 < (mn : Int)), ?_, ?_⟩
        · walk_at "s"
          refine ite2 (fun c => ?_) (fun c => ?_)
          · walk_at "s"
            refine ite2 (fun c2 => ?_) (fun c2 => ?_)
            · exact (kk _ _ _ _ _ B10 hb10).2
            · exact ⟨rfl, rfl, fun q => c2 (decide_eq_true q.2)⟩
          · exact ⟨rfl, rfl, fun q => c (decide_eq_true (by omega))⟩
        · rintro σ' H1 ⟨rfl, rfl, hno⟩
          have hdue := due_ok shape I hMV h89 hno
          have hsz : ∀ z, (if (mn : Int) = 0 ∧ x89 ≤ ((n9 : Int) - 8) then none else if 80 < MV then none else some (MV : Int)) = some z → z.natAbs.log2 < 1920 := fun z hz => by
            refine log_small ?_
            split at hz
            · cases hz
            · split at hz
              · cases hz
              · cases hz
                rw [Int.natAbs_natCast]
                exact Nat.lt_of_le_of_lt hMV90 (by decide)
          walk_at "s"
          refine ⟨q, f', a', m', _, rfl, hq10, I.parts, fun _ => I.all, fun H11 s11 => ?_⟩
          rw [hdue]
          refine ⟨_, rfl, hsz, ?_⟩
          walk_at "s"
          refine ⟨hsz, ?_⟩
          refine ⟨rfl, ?_⟩
          rw [decide_eq_true rfl]
          walk_at "s"
          exact (kk _ _ _ _ _ (B10.trans (Bx.of s11)) (hb10.same s11)).1

end
end My

namespace My
open PySem PySem.Spec PyProof.Rows L2
local macro_rules | `(tactic| walk_at "side") => `(tactic| first | (dsimp only; omega) | exact ⟨by omega, by omega⟩ | exact Or.inl ⟨by omega, by omega⟩ | exact Or.inr ⟨by omega, by omega⟩ | decide)
local macro_rules | `(tactic| walk_at "sq") => `(tactic| first | assumption | exact SqL.of (by assumption) | exact SqT.of (by assumption) | (refine L2.Same.seq (by assumption) ?_; walk_at "sq") | (refine L2.Same.seqT (by assumption) ?_; walk_at "sq") | exact Or.inl (by walk_at "sq") | exact Or.inr (by walk_at "sq"))
local macro_rules | `(tactic| walk_at "1") => `(tactic| first
  | refine ⟨_, rfl, iteT ?_⟩
  | refine ⟨_, rfl, iteF ?_⟩
  | refine ⟨_, rfl, ?_⟩
  | refine ⟨_, _, rfl, rfl, (by walk_at "side"), ?_⟩
  | refine ⟨_, _, rfl, rfl, ?_⟩
  | refine ⟨_, _, _, _, true, rfl, .ty _, .base (.int _), kit_ty (a := "int") (by decide +kernel), ?_⟩
  | refine ⟨_, _, _, _, false, rfl, .ty _, .base (.int _), kit_ty (a := "int") (by decide +kernel), ?_⟩
  | refine ⟨_, _, rfl, (by walk_at "sq"), ?_⟩
  | refine ⟨_, _, _, _, rfl, rfl, (by walk_at "sq"), (by first | rfl | assumption), ?_⟩
  | refine Or.inl ⟨_, _, _, _, rfl, rfl, (by walk_at "sq"), (by first | rfl | assumption), ?_⟩
  | refine Or.inr (Or.inl ⟨_, _, _, _, rfl, rfl, (by walk_at "sq"), (by first | rfl | assumption), ?_⟩)
  | refine ⟨_, _, rfl, Or.inl ⟨(by walk_at "sq"), ?_⟩⟩
  | refine ⟨rfl, ?_⟩
  | refine iteT ?_
  | refine iteF ?_
  | refine ⟨_, _, _, _, _, rfl, (by assumption), (by assumption), (by assumption), (by assumption), ?_⟩
  | refine ⟨_, _, _, rfl, (by assumption), rfl, ?_⟩
  | refine Or.inl ⟨_, rfl, ?_⟩
  | refine Or.inr ⟨_, rfl, ?_⟩
  | refine ⟨_, _, rfl, (by walk_at "side"), ?_⟩
  | refine ⟨_, _, rfl, ?_⟩)
local macro_rules | `(tactic| walk_at "fld") => `(tactic| skip)
local macro_rules | `(tactic| walk_at "s") => `(tactic| repeat walk_at "1")
local macro_rules | `(tactic| walk_at "size") => `(tactic| first | exact Nat.le_of_ble_eq_true rfl | (simp only [List.length_map, List.length_append, List.length_cons, List.length_nil]; omega))
local macro_rules | `(tactic| walk_at "new") => `(tactic| (first | refine ⟨(by walk_at "size"), fun p hp => ?_⟩ | refine fun p hp => ?_); (generalize hq : upd _ p _ = H1); (obtain ⟨s, e⟩ := new_facts hp hq); clear hq)

section
variable {P : Program} {w : World} {K : PySem.W.Frag} {mg : Str → Option Value} {base : Heap} {C : Addr} {fa : Addr} {cdv : Value} {A : Around} {outer : List Env} {s : Shared} {H : Hp} {E : XK}
def tTurn : TS := fun D σ H2 => ∃ (b : Addr) (j : Nat) (y0 y1 y4 y5 y6 y7 y8 y9 y10 y11 y12 y13 y14 : Option V), σ = [y0, y1, some (.ref b), some (.int (j : Nat)), y4, y5, y6, y7, y8, y9, y10, y11, y12, y13, y14] ∧ BoxAt H2 b ∧ ∀ (w4 w5 w6 w7 w8 w9 w10 w11 w12 w13 w14 : Option V) (H' : Hp), Bx b H2 H' → BoxAt H' b → D.nx [y0, y1, some (.ref b), some (.int (j : Nat)), w4, w5, w6, w7, w8, w9, w10, w11, w12, w13, w14] H'
set_option maxHeartbeats 8000000 in
theorem blk_turn (T : Txt mg) (R : RowCls K mg C) (o_law_take : Own P w K mg base "_law_take" 1 ["box", "many"] spTake)
    (o_law_row : Own P w K mg base "_law_row" 3 ["box", "is_low"] spRow) (o_law_made : Own P w K mg base "_law_made" 6 ["told"] (spMade C)) (o_law_divisor : Own P w K mg base "_law_divisor" 1 ["one", "other"] spDiv)
    (o_law_times : Own P w K mg base "_law_times" 2 ["told", "many"] spTimes) (o_law_time : Own P w K mg base "_law_time" 1 ["told", "n"] spTold)
    (o_rate : Prp P w K mg base C "rate" 2 ["self"] (spRate C)) (o_count : Mth P w K mg base C "count" 2 ["self", "time"] (spCount C)) (hr : Room 7 (A.deeper (envOfC "law" (defScope s_law) s.heap.objs.size fa cdv))) :
    PSs (cxOf CX0 P w K mg base ["script", "k", "box", "turn", "told", "made", "size", "by", "some", "more", "time", "many", "due", "far", "thing"] "law" (defScope s_law) fa cdv A outer s H E).nox turnBody tTurn := by
  refine pss_pre (pss_cons (ps_set (i := 4) sc_law.nd rfl (Or.inl rfl) (pe_own o_law_row (hr.mono (by decide)) (pa_cons (pv 2) (pa_cons (pe_cmpR op_eq (pe_op op_mod (pv 3) pe_int) pe_int (nomark _)) pa_nil))))
          (pss_cons (ps_par (i := 5) (j := 6) (by rfl) sc_law.nd rfl rfl (by decide) rfl rfl (pa_cons (pe_own o_law_made (hr.mono (by decide)) (pa_cons (pv 4) pa_nil)) (pa_cons (pe_callB call_len_seq (by rfl) T.len PySem.boot_len (pa_cons (pe_ix ix_tup (pv 4) pe_int (fun _ _ => rfl)) pa_nil)) pa_nil)) (by rfl))
          (pss_cons (ps_set (i := 7) sc_law.nd rfl (Or.inl rfl) (pe_own o_law_divisor (hr.mono (by decide)) (pa_cons (pe_ix ix_tup (pv 4) pe_int (fun _ _ => rfl)) (pa_cons (pv 6) pa_nil))))
          (pss_cons (ps_if (pt_cmpR (op_neD hr.units) (pe_prp R.cl o_rate (hr.mono (by decide)) (pv 5)) (pe_tup (pa_cons (pe_op op_fdiv (pe_ix ix_tup (pv 4) pe_int (fun _ _ => rfl)) (pv 7)) (pa_cons (pe_op op_fdiv (pv 6) (pv 7)) pa_nil))) (nomark _))
            (pss_one (ps_ret pe_bl))
            pss_nil)
          (pss_cons (ps_set (i := 8) sc_law.nd rfl (Or.inl rfl) (pe_own o_law_times (hr.mono (by decide)) (pa_cons (pv 4) (pa_cons pe_int pa_nil))))
          (pss_cons (ps_for PassesOwn.never rfl (pi_range1 (by rfl) T.range (pa_cons pe_int pa_nil)) (pg_name (i := 9) sc_law.nd rfl (Or.inl rfl))
            (blk_more T R o_law_take o_count hr))
          (pss_cons (ps_set (i := 13) sc_law.nd rfl (Or.inl rfl) (pe_mth R.cl o_count (hr.mono (by decide)) (pv 5) (pa_cons (pe_op op_pow pe_int pe_int) pa_nil)))
          (pss_cons (ps_if (pt_cmpR op_ne (pe_cmpR op_isN (pv 13) pe_non (nomark _)) (pe_cmpR op_eq (pe_ix ix_tup (pv 4) pe_int (fun _ _ => rfl)) pe_int (nomark _)) (nomark _))
            (pss_one (ps_ret pe_bl))
            pss_nil)
          (pss_one (ps_if (PW.pt (pw_and (pt_cmpR op_notN (pv 13) pe_non (nomark _)) (pw_and1 (pt_not (pt_chain op_le op_lt (pe_own o_law_time (hr.mono (by decide)) (pa_cons (pv 4) (pa_cons (pe_op op_sub (pv 13) pe_int) pa_nil))) (pe_op op_pow pe_int pe_int) (pe_own o_law_time (hr.mono (by decide)) (pa_cons (pv 4) (pa_cons (pv 13) pa_nil))))))))
            (pss_one (ps_ret pe_bl))
            pss_nil)))))))))) ?_
  rintro D σ H2 ⟨b, j, y0, y1, y4, y5, y6, y7, y8, y9, y10, y11, y12, y13, y14, rfl, hb2, kk⟩
  have h1000 : 1000 < sizeLine := small1000 (Nat.le_refl _)
  walk_at "s"
  refine fun H3 pt f aa m s3 hb3 npt told shape => ?_
  have ok := shape.ok
  have pts := shape.parts
  obtain ⟨mn, rfl⟩ := Int.eq_ofNat_of_zero_le pts.m0
  have b31 := hb3
  walk_at "s"
  refine ⟨pt, f, aa, (mn : Int), rfl, told.told, ok, pts, fun H4 q f' a' m' s4 nq hq mo => ?_⟩
  have I := made_is shape mo
  have hb4 := hb3.same s4
  have told4 := told.bx (Bx.of s4)
  obtain ⟨pf, pa, nt, nf, na, t1, t2, t3⟩ := id told4
  have la : (aa.map ov).length = aa.length := List.length_map ..
  have g0 : 0 < Nat.gcd mn aa.length := Nat.gcd_pos_of_pos_right _ shape.ne
  have g1 : Nat.gcd mn aa.length ≤ aa.length := Nat.gcd_le_right _ shape.ne
  have hla := pts.la
  obtain ⟨dx, qf, qa, hq1, hq2, hq3⟩ := id hq
  walk_at "s"
  rw [la]
  refine ⟨q, dx, _, rfl, hq1, ⟨q, f', a', m', rfl, hq, I.parts, fun H5 r s5 nr er => ?_⟩⟩
  have told5 := told4.bx (Bx.of s5)
  have hb5 := hb4.same s5
  obtain ⟨pf5, pa5, _, _, _, t51, t52, t53⟩ := id told5
  rw [I.rate.1, I.rate.2, Int.toNat_natCast] at er
  walk_at "s"
  walk_at "new"
  rename_i r2 nr2 H6 s6 e6
  refine ⟨_, _, .tup (SqT.of (s6 _ _ er)) (.cons (.int _) (.cons (.int _) .nil)), .tup (SqT.of e6) (.cons (.int _) (.cons (.int _) .nil)), rfl, rfl, ?_⟩
  rw [eqv_pair]
  have told6 := told5.bx (Bx.of s6)
  walk_at "s"
  refine ⟨pt, f, aa, (mn : Int), 90, rfl, told6.told, pts, by decide, fun H7 sm s7 nsm esm => ?_⟩
  have hb6 := hb5.same s6
  have hb7 := hb6.same s7
  have smb : sm ≠ b := hb6.ne nsm
  have told7 := told6.bx (Bx.of s7)
  have hq7 : RowAt C H7 q f' a' m' := s7.row (s6.row (s5.row hq))
  have B7 : Bx b H2 H7 := s3.trans (Bx.of (s4.trans (s5.trans (s6.trans s7))))
  walk_at "s"
  refine ⟨by decide, by decide, for_range (lo := 0) (n := 8) (fun l σ H' => ∃ y9 y10 y11 y12 y13 y14, σ = [y0, y1, some (.ref b), some (.int (j : Nat)), some (.ref pt), some (.ref q), some (.int (aa.length : Nat)), some (.int (Nat.gcd mn aa.length : Nat)), some (.ref sm), y9, y10, y11, y12, y13, y14] ∧ Bx b H7 H' ∧ BoxAt H' b)
    ⟨_, _, _, _, _, _, rfl, fun _ _ _ e => e, hb7⟩ ?_ ?_⟩
  · rintro l σ H8 hl ⟨y9, y10, y11, y12, y13, y14, rfl, B8, hb8⟩
    rw [Int.zero_add]
    refine ⟨b, pt, q, sm, f, aa, f', a', mn, m', _, _, _, _, _, _, _, _, _, _, _, rfl, ⟨hb8, told7.bx B8, hq7.bx hb7 B8, B8 _ _ smb esm, smb, shape, I⟩, fun w9 w10 w11 w12 H' B' hb' => ⟨?_, ?_⟩⟩
    · exact ⟨_, _, _, _, _, _, rfl, B8.trans B', hb'⟩
    · exact ⟨_, _, _, _, _, _, rfl, B8.trans B', hb'⟩
  · rintro σ H8 ⟨y9, y10, y11, y12, y13, y14, rfl, B8, hb8⟩
    have told8 := told7.bx B8
    have hq8 := hq7.bx hb7 B8
    obtain ⟨dx8, qf8, qa8, hq81, hq82, hq83⟩ := id hq8
    obtain ⟨pf8, pa8, _, _, _, t81, t82, t83⟩ := id told8
    obtain ⟨fz, fp⟩ := far_ok shape I 1000000000000 (by decide)
    walk_at "s"
    refine ⟨q, f', a', m', _, rfl, hq8, I.parts, fun _ => I.all, fun H9 s9 => ?_⟩
    have told9 := told8.bx (Bx.of s9)
    obtain ⟨pf9, pa9, _, _, _, t91, t92, t93⟩ := id told9
    have hb9 := hb8.same s9
    have B9 : Bx b H2 H9 := B7.trans (B8.trans (Bx.of s9))
    have e12 : ((10 : Int) ^ (12 : Int).toNat) = 1000000000000 := by decide
    rw [e12]
    by_cases hm : (mn : Int) = 0
    · rw [fz hm]
      walk_at "s"
      refine ite2 (fun c => ?_) (fun _ => ?_)
      · rw [show V.int (mn : Int) = V.int 0 from congrArg V.int hm] at c
        exact absurd (show false = true from c) (by decide)
      · walk_at "s"
        exact kk _ _ _ _ _ _ _ _ _ _ _ H9 B9 hb9
    · obtain ⟨N, eN, x, y, hx, hxb, hy, hyb⟩ := fp hm
      rw [eN]
      walk_at "s"
      refine ite2 (fun c => ?_) (fun _ => ?_)
      · rw [decide_eq_false (fun q => hm (V.int.inj q))] at c
        exact absurd (show false = true from c) (by decide)
      · walk_at "s"
        refine ⟨pt, f, aa, (mn : Int), N, ?_, told9.told, pts, ?_⟩
        · show [V.ref pt, V.int (((N + 1 : Nat) : Int) - 1)] = _
          rw [show ((N + 1 : Nat) : Int) - 1 = (N : Int) by omega]
        rw [hx]
        walk_at "s"
        rw [show decide (x ≤ (10 : Int) ^ (12 : Int).toNat) = true from decide_eq_true hxb]
        walk_at "s"
        refine ⟨pt, f, aa, (mn : Int), N + 1, rfl, told9.told, pts, ?_⟩
        rw [hy]
        walk_at "s"
        rw [show decide ((10 : Int) ^ (12 : Int).toNat < y) = true from decide_eq_true hyb]
        walk_at "s"
        exact kk _ _ _ _ _ _ _ _ _ _ _ H9 B9 hb9
end
end My

namespace My
open PySem PySem.Spec PyProof.Rows L2
local macro_rules | `(tactic| walk_at "side") => `(tactic| first | (dsimp only; omega) | exact ⟨by omega, by omega⟩ | exact Or.inl ⟨by omega, by omega⟩ | exact Or.inr ⟨by omega, by omega⟩ | decide)
local macro_rules | `(tactic| walk_at "sq") => `(tactic| first | assumption | exact SqL.of (by assumption) | exact SqT.of (by assumption) | (refine L2.Same.seq (by assumption) ?_; walk_at "sq") | (refine L2.Same.seqT (by assumption) ?_; walk_at "sq") | exact Or.inl (by walk_at "sq") | exact Or.inr (by walk_at "sq"))
local macro_rules | `(tactic| walk_at "1") => `(tactic| first
  | refine ⟨_, rfl, iteT ?_⟩
  | refine ⟨_, rfl, iteF ?_⟩
  | refine ⟨_, rfl, ?_⟩
  | refine ⟨_, _, rfl, rfl, (by walk_at "side"), ?_⟩
  | refine ⟨_, _, rfl, rfl, ?_⟩
  | refine ⟨_, _, _, _, true, rfl, .ty _, .base (.int _), kit_ty (a := "int") (by decide +kernel), ?_⟩
  | refine ⟨_, _, _, _, false, rfl, .ty _, .base (.int _), kit_ty (a := "int") (by decide +kernel), ?_⟩
  | refine ⟨_, _, rfl, (by walk_at "sq"), ?_⟩
  | refine ⟨_, _, _, _, rfl, rfl, (by walk_at "sq"), (by first | rfl | assumption), ?_⟩
  | refine Or.inl ⟨_, _, _, _, rfl, rfl, (by walk_at "sq"), (by first | rfl | assumption), ?_⟩
  | refine Or.inr (Or.inl ⟨_, _, _, _, rfl, rfl, (by walk_at "sq"), (by first | rfl | assumption), ?_⟩)
  | refine ⟨_, _, rfl, Or.inl ⟨(by walk_at "sq"), ?_⟩⟩
  | refine ⟨rfl, ?_⟩
  | refine iteT ?_
  | refine iteF ?_
  | refine ⟨_, _, _, _, _, rfl, (by assumption), (by assumption), (by assumption), (by assumption), ?_⟩
  | refine ⟨_, _, _, rfl, (by assumption), rfl, ?_⟩
  | refine Or.inl ⟨_, rfl, ?_⟩
  | refine Or.inr ⟨_, rfl, ?_⟩
  | refine ⟨_, _, rfl, (by walk_at "side"), ?_⟩
  | refine ⟨_, _, rfl, ?_⟩)
local macro_rules | `(tactic| walk_at "fld") => `(tactic| skip)
local macro_rules | `(tactic| walk_at "s") => `(tactic| repeat walk_at "1")
local macro_rules | `(tactic| walk_at "size") => `(tactic| first | exact Nat.le_of_ble_eq_true rfl | (simp only [List.length_map, List.length_append, List.length_cons, List.length_nil]; omega))
local macro_rules | `(tactic| walk_at "new") => `(tactic| (first | refine ⟨(by walk_at "size"), fun p hp => ?_⟩ | refine fun p hp => ?_); (generalize hq : upd _ p _ = H1); (obtain ⟨s, e⟩ := new_facts hp hq); clear hq)

section
variable {P : Program} {w : World} {K : PySem.W.Frag} {mg : Str → Option Value} {base : Heap} {C : Addr}
def spLaw (K : PySem.W.Frag) : Sp := fun vs H Q _ => ∃ (a : Addr) (ns : List Int), vs = [.ref a] ∧ SqL K H a (ns.map V.int) ∧ ns.length ≤ 63 ∧ ∀ H', Q (.bl true) H'
set_option maxHeartbeats 8000000 in
theorem ok_law {fa : Addr} {fd : FuncData} (F : Fun K "law" "law" s_law fa fd) (T : Txt mg) (R : RowCls K mg C) (o_law_box : Own P w K mg base "_law_box" 1 ["script", "k"] (spBox K)) (o_law_take : Own P w K mg base "_law_take" 1 ["box", "many"] spTake)
    (o_law_row : Own P w K mg base "_law_row" 3 ["box", "is_low"] spRow) (o_law_made : Own P w K mg base "_law_made" 6 ["told"] (spMade C)) (o_law_divisor : Own P w K mg base "_law_divisor" 1 ["one", "other"] spDiv)
    (o_law_times : Own P w K mg base "_law_times" 2 ["told", "many"] spTimes) (o_law_time : Own P w K mg base "_law_time" 1 ["told", "n"] spTold) (o_unit : Own P w K mg base "unit" 6 [] (spOne C (some 0))) (o_empty : Own P w K mg base "empty" 6 [] (spOne C none))
    (o_rate : Prp P w K mg base C "rate" 2 ["self"] (spRate C)) (o_count : Mth P w K mg base C "count" 2 ["self", "time"] (spCount C)) : FnOk P w K mg base CX0 8 fa fd ["script"] (spLaw K) := by
  refine F.ok sc_law (fun vs H Q E h => ?_) (fun cdv A outer s H vs Q E hr h => ?_)
  · obtain ⟨_, _, rfl, _⟩ := h
    rfl
  · obtain ⟨a, ns, rfl, hS, hlen, k⟩ := h
    have h1000 : 1000 < sizeLine := small1000 (Nat.le_refl _)
    refine ⟨_, (pss_cons (ps_for PassesOwn.never rfl (pi_range1 (by rfl) T.range (pa_cons (pe_callB (call_max2 rfl) (by rfl) T.max (by decide +kernel) (pa_cons pe_int (pa_cons (pe_callB (call_min2 rfl) (by rfl) T.min (by decide +kernel) (pa_cons pe_int (pa_cons (pe_callB call_len_seq (by rfl) T.len PySem.boot_len (pa_cons (pv 0) pa_nil)) pa_nil))) pa_nil))) pa_nil)) (pg_name (i := 1) sc_law.nd rfl (Or.inl rfl))
    (pss_cons (ps_set (i := 2) sc_law.nd rfl (Or.inl rfl) (pe_own o_law_box (hr.mono (by decide)) (pa_cons (pv 0) (pa_cons (pv 1) pa_nil))))
      (pss_one (ps_for PassesOwn.never rfl (pi_range1 (by rfl) T.range (pa_cons pe_int pa_nil)) (pg_name (i := 3) sc_law.nd rfl (Or.inl rfl))
        (blk_turn T R o_law_take o_law_row o_law_made o_law_divisor o_law_times o_law_time o_rate o_count hr)))))
  (pss_one (ps_ret (pe_and (pe_cmpR (op_eqD hr.units) (pe_prp R.cl o_rate (hr.mono (by decide)) (pe_own0 o_empty (hr.mono (by decide)))) (pe_tup (pa_cons pe_int (pa_cons pe_int pa_nil))) (nomark _)) (pe_and (pe_cmpR op_isN (pe_mth R.cl o_count (hr.mono (by decide)) (pe_own0 o_empty (hr.mono (by decide))) (pa_cons (pe_un un_neg pe_int) pa_nil)) pe_non (nomark _)) (pe_and (pe_cmpR op_isN (pe_mth R.cl o_count (hr.mono (by decide)) (pe_own0 o_unit (hr.mono (by decide))) (pa_cons pe_int pa_nil)) pe_non (nomark _)) (pe_one (pe_cmpR op_eq (pe_mth R.cl o_count (hr.mono (by decide)) (pe_own0 o_unit (hr.mono (by decide))) (pa_cons (pe_un un_neg pe_int) pa_nil)) pe_int (nomark _))))))))), ?_⟩
    walk_at "s"
    have hN : 1 ≤ (if (if ((ns.map V.int).length : Int) < 4 then ((ns.map V.int).length : Int) else 4) > 1 then (if ((ns.map V.int).length : Int) < 4 then ((ns.map V.int).length : Int) else 4) else 1) ∧ (if (if ((ns.map V.int).length : Int) < 4 then ((ns.map V.int).length : Int) else 4) > 1 then (if ((ns.map V.int).length : Int) < 4 then ((ns.map V.int).length : Int) else 4) else 1) ≤ 4 := by
      split <;> split at * <;> omega
    generalize (if (if ((ns.map V.int).length : Int) < 4 then ((ns.map V.int).length : Int) else 4) > 1 then (if ((ns.map V.int).length : Int) < 4 then ((ns.map V.int).length : Int) else 4) else 1) = N at hN ⊢
    refine ⟨by omega, by omega, for_range (lo := 0) (n := N.toNat) (fun i σ H' => ∃ y1 y2 y3 y4 y5 y6 y7 y8 y9 y10 y11 y12 y13 y14, σ = [some (.ref a), y1, y2, y3, y4, y5, y6, y7, y8, y9, y10, y11, y12, y13, y14] ∧ Same H H')
      ⟨none, none, none, none, none, none, none, none, none, none, none, none, none, none, rfl, Same.refl _⟩ ?_ ?_⟩
    · rintro i σ H0 hi ⟨y1, y2, y3, y4, y5, y6, y7, y8, y9, y10, y11, y12, y13, y14, rfl, S0⟩
      rw [Int.zero_add]
      walk_at "s"
      refine ⟨a, ns, i, rfl, S0.seq hS, hlen, fun H1 b s1 nb hb1 => ?_⟩
      walk_at "s"
      refine ⟨by decide, by decide, for_range (lo := 0) (n := 8) (fun j σ H' => ∃ y3 y4 y5 y6 y7 y8 y9 y10 y11 y12 y13 y14, σ = [some (.ref a), some (.int (i : Nat)), some (.ref b), y3, y4, y5, y6, y7, y8, y9, y10, y11, y12, y13, y14] ∧ Same H0 H' ∧ BoxAt H' b) ⟨_, _, _, _, _, _, _, _, _, _, _, _, rfl, s1, hb1⟩ ?_ ?_⟩
      · rintro j σ H2 hj ⟨y3, y4, y5, y6, y7, y8, y9, y10, y11, y12, y13, y14, rfl, S2, hb2⟩
        rw [Int.zero_add]
        refine ⟨b, j, _, _, _, _, _, _, _, _, _, _, _, _, _, rfl, hb2, fun w4 w5 w6 w7 w8 w9 w10 w11 w12 w13 w14 H' B' hb' => ?_⟩
        exact ⟨_, _, _, _, _, _, _, _, _, _, _, _, rfl, B'.same S2 nb, hb'⟩
      · rintro σ H2 ⟨y3, y4, y5, y6, y7, y8, y9, y10, y11, y12, y13, y14, rfl, S2, hb2⟩
        exact ⟨_, _, _, _, _, _, _, _, _, _, _, _, _, _, rfl, S0.trans S2⟩
    · rintro σ H0 ⟨y1, y2, y3, y4, y5, y6, y7, y8, y9, y10, y11, y12, y13, y14, rfl, S0⟩
      have pE : Parts [] [none] 0 := ⟨fun z => (nomatch z), by decide, by decide, by decide, by decide⟩
      have pU : Parts [] [some 0] 0 := ⟨fun z => (nomatch z), by decide, by decide, by decide, by decide⟩
      walk_at "s"
      refine fun H1 q1 s1 n1 hq1 => ?_
      obtain ⟨dx1, qf1, qa1, hq11, hq12, hq13⟩ := id hq1
      refine ⟨q1, dx1, _, rfl, hq11, ⟨q1, [], [none], 0, rfl, hq1, pE, fun H2 r1 s2 nr1 er1 => ?_⟩⟩
      walk_at "s"
      walk_at "new"
      rename_i r2 nr2 H3 s3 er2
      refine ⟨_, _, .tup (SqT.of (s3 _ _ er1)) (.cons (.int _) (.cons (.int _) .nil)), .tup (SqT.of er2) (.cons (.int _) (.cons (.int _) .nil)), rfl, rfl, ?_⟩
      walk_at "s"
      have hE : ∀ t, cntR [] [none] 0 t = none := fun _ => rfl
      have hU0 : cntR [] [some 0] 0 0 = none := by decide
      have hU1 : cntR [] [some 0] 0 (-1) = some 0 := by decide
      have hUa : ∀ x ∈ [some (0 : Int)], x ≠ none := fun x hx e => by
        rw [List.mem_singleton.mp hx] at e
        cases e
      refine fun H4 q2 s4 n2 hq2 => ?_
      obtain ⟨dx2, qf2, qa2, hq21, hq22, hq23⟩ := id hq2
      walk_at "s"
      refine ⟨q2, [], [none], 0, _, rfl, hq2, pE, fun z => (z rfl).elim, fun H5 s5 => ?_⟩
      rw [hE]
      walk_at "s"
      refine fun H6 q3 s6 n3 hq3 => ?_
      obtain ⟨dx3, qf3, qa3, hq31, hq32, hq33⟩ := id hq3
      walk_at "s"
      refine ⟨q3, [], [some 0], 0, _, rfl, hq3, pU, fun _ => hUa, fun H7 s7 => ?_⟩
      rw [hU0]
      walk_at "s"
      refine fun H8 q4 s8 n4 hq4 => ?_
      obtain ⟨dx4, qf4, qa4, hq41, hq42, hq43⟩ := id hq4
      walk_at "s"
      refine ⟨q4, [], [some 0], 0, _, rfl, hq4, pU, fun _ => hUa, fun H9 s9 => ?_⟩
      rw [hU1]
      walk_at "s"
      exact k _
end
end My

namespace My
open PySem PySem.Spec PyProof.Rows L2
section
variable {K : PySem.W.Frag} {h : Heap} {mg : Str → Option Value}
theorem df_mk {x : Str} {st : Stmt} {ps : List Str} {f : Addr} {oc : Value} {od an : Option Addr} {osl : Array (Option Value)} {kV doc pm cdv ct : Value} (X : K.In h) (G : h.Ns mainGlobals mg)
    (a : PySem.W.nsIn K mainGlobals x = some (some (.ref f)))
    (l : K.lookup f = some ⟨oc, od, .func (PySem.W.fnOf x x (defArgs st) (defBody st) (defScope st) .none kV doc pm an cdv ct), osl⟩) (c : PySem.W.codeIn K cdv x = true) (k : PySem.W.keepIn K (.ref f) = true)
    (hb : ∀ (kV doc pm : Value) (an : Option Addr) (cdv ct : Value) (us : List Value), us.length = ps.length → bindArgs (PySem.W.fnOf x x (defArgs st) (defBody st) (defScope st) .none kV doc pm an cdv ct) ⟨us, []⟩ = pure (ps.zip us)) : Df K mg x st ps :=
  ⟨f, _, fun_mk l c k, PySem.W.mg_of X G a, (fun_mk l c k).binds hb⟩
/-- a method of the class -/
structure DfM (K : PySem.W.Frag) (C : Addr) (x qual : Str) (st : Stmt) (ps : List Str) : Prop where
  ex : ∃ f fd, Fun K x qual st f fd ∧ Meth K C x f ∧ Binds K fd ps []
theorem dfm_mk {C : Addr} {x qual : Str} {st : Stmt} {ps : List Str} {f : Addr} {oc : Value} {od an : Option Addr} {osl : Array (Option Value)} {kV doc pm cdv ct : Value}
    (a : PySem.W.findIn K (.ref C) x = some (some (.ref f))) (i : PySem.W.isFn K (.ref f) = true)
    (l : K.lookup f = some ⟨oc, od, .func (PySem.W.fnOf x qual (defArgs st) (defBody st) (defScope st) .none kV doc pm an cdv ct), osl⟩) (c : PySem.W.codeIn K cdv qual = true) (k : PySem.W.keepIn K (.ref f) = true)
    (hb : ∀ (kV doc pm : Value) (an : Option Addr) (cdv ct : Value) (us : List Value), us.length = ps.length → bindArgs (PySem.W.fnOf x qual (defArgs st) (defBody st) (defScope st) .none kV doc pm an cdv ct) ⟨us, []⟩ = pure (ps.zip us)) : DfM K C x qual st ps :=
  ⟨f, _, fun_mk l c k, ⟨a, i, k⟩, (fun_mk l c k).binds hb⟩
structure DfP (K : PySem.W.Frag) (C : Addr) (x qual : Str) (st : Stmt) (ps : List Str) : Prop where
  ex : ∃ p f fd, Fun K x qual st f fd ∧ PropOf K C x p f ∧ Binds K fd ps []
theorem dfp_mk {C p : Addr} {x qual : Str} {st : Stmt} {ps : List Str} {f : Addr} {rest : List Value} {oc : Value} {od an : Option Addr} {osl : Array (Option Value)} {kV doc pm cdv ct : Value}
    (a : PySem.W.findIn K (.ref C) x = some (some (.ref p))) (g : PySem.W.specialIn K (.ref p) "__get__" = some (some (.builtin "property.__get__"))) (t : PySem.W.takesIn K (.ref p) = some true) (r : PySem.W.recIn K p "property" = some (.ref f :: rest))
    (l : K.lookup f = some ⟨oc, od, .func (PySem.W.fnOf x qual (defArgs st) (defBody st) (defScope st) .none kV doc pm an cdv ct), osl⟩) (c : PySem.W.codeIn K cdv qual = true) (k : PySem.W.keepIn K (.ref f) = true)
    (hb : ∀ (kV doc pm : Value) (an : Option Addr) (cdv ct : Value) (us : List Value), us.length = ps.length → bindArgs (PySem.W.fnOf x qual (defArgs st) (defBody st) (defScope st) .none kV doc pm an cdv ct) ⟨us, []⟩ = pure (ps.zip us)) : DfP K C x qual st ps :=
  ⟨p, f, _, fun_mk l c k, ⟨a, g, t, rest, r⟩, (fun_mk l c k).binds hb⟩
/-- the class with its __init__, which has one default -/
structure DfI (K : PySem.W.Frag) (mg : Str → Option Value) (C : Addr) (x qual : Str) (st : Stmt) (d : V) (ps : List Str) : Prop where
  ex : ∃ f fd, FunD K "__init__" qual (defArgs st) (defBody st) (defScope st) [d] [] f fd ∧ Mk K C f ∧ mg x = some (.ref C) ∧ Binds K fd ps []
theorem dfi_mk {C Td : Addr} {x qual : Str} {st : Stmt} {d : V} {u : Value} {ps : List Str} {f : Addr} {oc : Value} {od an : Option Addr} {osl : Array (Option Value)} {kV doc pm cdv ct : Value} {o : Obj} {n : Nat} (X : K.In h) (G : h.Ns mainGlobals mg)
    (aC : PySem.W.nsIn K mainGlobals x = some (some (.ref C))) (a : PySem.W.findIn K (.ref C) "__init__" = some (some (.ref f))) (i : PySem.W.isFn K (.ref f) = true) (mk : PySem.W.makesIn K C = true) (kc : PySem.W.keepIn K (.ref C) = true)
    (l : K.lookup f = some ⟨oc, od, .func (PySem.W.fnOf "__init__" qual (defArgs st) (defBody st) (defScope st) (.ref Td) kV doc pm an cdv ct), osl⟩) (lT : K.lookup Td = some o) (oT : o.data = .seq [u].toArray n) (ru : RelV d u)
    (c : PySem.W.codeIn K cdv qual = true) (k : PySem.W.keepIn K (.ref f) = true)
    (hb : ∀ (T : Addr) (kV doc pm : Value) (an : Option Addr) (cdv ct : Value) (us its : List Value), us.length = ps.length → its.length = 1 →
      ∃ k, bindArgs (PySem.W.fnOf "__init__" qual (defArgs st) (defBody st) (defScope st) (.ref T) kV doc pm an cdv ct) ⟨us, []⟩ = seqItems? (.ref T) >>= k ∧ k (some its.toArray) = pure (ps.zip (us ++ its.drop 1))) : DfI K mg C x qual st d ps := by
  have F : FunD K "__init__" qual (defArgs st) (defBody st) (defScope st) [d] [] f (PySem.W.fnOf "__init__" qual (defArgs st) (defBody st) (defScope st) (.ref Td) kV doc pm an cdv ct) :=
    ⟨⟨oc, od, .ref Td, kV, doc, pm, an, cdv, ct, osl, rfl, l, c, Or.inr ⟨by simp, Td, o, [u], n, rfl, lT, oT, .cons ru .nil⟩, Or.inl rfl⟩, k⟩
  obtain ⟨ds, v, b⟩ := F.binds1 (ps := ps) ps.length 1 (by simp) (by simp) hb
  cases v
  exact ⟨f, _, F, ⟨mk, a, i, kc⟩, PySem.W.mg_of X G aC, b⟩
end
theorem all_ok {P : Program} {w : World} {K : PySem.W.Frag} {mg : Str → Option Value} {C fa : Addr} (T : Txt mg) (R : RowCls K mg C) (g : mg "gcd" = some (.builtin "math.gcd"))
    (d_is_integer : Df K mg "is_integer" s_is_integer ["value"]) (d_is_number : Df K mg "is_number" s_is_number ["value"]) (d_is_sequence : Df K mg "is_sequence" s_is_sequence ["value"]) (d_low : Df K mg "in_lowest_terms" s_in_lowest_terms ["top", "bottom"])
    (d_init : DfI K mg C "Row" "Row.__init__" s_Row_init (.int 0) ["self", "first", "again", "more"]) (d_rate : DfP K C "rate" "Row.rate" s_Row_rate ["self"]) (d_count : DfM K C "count" "Row.count" s_Row_count ["self", "time"])
    (d_rises : Df K mg "_rises" s_rises ["things"]) (d_wrong : Df K mg "_wrong_argument" s_wrong_argument ["first", "again", "more"]) (d_st : Df K mg "_shortest_turn" s_shortest_turn ["again", "more"]) (d_al : Df K mg "all_later" s_all_later ["things", "lasts"])
    (d_sf : Df K mg "_shortest_first" s_shortest_first ["things", "begin", "turn", "grow"]) (d_unit : Df K mg "unit" s_unit []) (d_empty : Df K mg "empty" s_empty []) (d_is_empty : Df K mg "is_empty" s_is_empty ["row"])
    (d_box : Df K mg "_law_box" s_law_box ["script", "k"]) (d_take : Df K mg "_law_take" s_law_take ["box", "many"]) (d_pick : Df K mg "_law_pick" s_law_pick ["box", "some"]) (d_row : Df K mg "_law_row" s_law_row ["box", "is_low"])
    (d_time : Df K mg "_law_time" s_law_time ["told", "n"]) (d_times : Df K mg "_law_times" s_law_times ["told", "many"]) (d_made : Df K mg "_law_made" s_law_made ["told"]) (d_div : Df K mg "_law_divisor" s_law_divisor ["one", "other"]) {fd : FuncData} (F : Fun K "law" "law" s_law fa fd) (base : Heap) : FnOk P w K mg base CX0 8 fa fd ["script"] (spLaw K) := by
  · have o1 : Own P w K mg base "is_integer" 1 ["value"] spIsInt := ok_is_integer d_is_integer T
    have o2 : Own P w K mg base "is_number" 2 ["value"] spIsNum := ok_is_number d_is_number o1
    have o3 : Own P w K mg base "is_sequence" 1 ["value"] spIsSeq := ok_is_sequence d_is_sequence T
    have o4 : Own P w K mg base "in_lowest_terms" 1 ["top", "bottom"] spLow := ok_low d_low g
    have o5 : Own P w K mg base "_rises" 2 ["things"] (spRises K) := ok_rises d_rises o1
    have o6 : Own P w K mg base "_wrong_argument" 3 ["first", "again", "more"] spWrong := ok_wrong d_wrong T o2 o3 o5
    have o7 : Own P w K mg base "all_later" 1 ["things", "lasts"] (spAllLater K) := ok_all_later d_al
    have o8 : Own P w K mg base "_shortest_turn" 2 ["again", "more"] spShortT := ok_shortest_turn d_st T o7
    have o9 : Own P w K mg base "_shortest_first" 2 ["things", "begin", "turn", "grow"] spShortF := ok_shortest_first d_sf o7
    have oI : Mks P w K mg base "Row" C 4 ["self", "first", "again", "more"] (spInit C) := by
      obtain ⟨f1, fd1, F1, M, mC, b1⟩ := d_init.ex
      exact ⟨f1, fd1, ok_init F1 R T o6 o8 o9, mC, M, b1⟩
    have o10 : Own P w K mg base "is_empty" 1 ["row"] (spIsEmpty C) := ok_is_empty d_is_empty R
    have oR : Prp P w K mg base C "rate" 2 ["self"] (spRate C) := by
      obtain ⟨p1, f1, fd1, F1, M, b1⟩ := d_rate.ex
      exact ⟨p1, f1, fd1, ok_rate F1 R T o4, M, b1⟩
    have oC : Mth P w K mg base C "count" 2 ["self", "time"] (spCount C) := by
      obtain ⟨f1, fd1, F1, M, b1⟩ := d_count.ex
      exact ⟨f1, fd1, ok_count F1 R T o10, M, b1⟩
    have oT : Own P w K mg base "_law_take" 1 ["box", "many"] spTake := ok_take d_take T
    have oP : Own P w K mg base "_law_pick" 2 ["box", "some"] spPick := ok_pick d_pick T oT
    exact ok_law F T R (ok_box d_box T) oT (ok_law_row d_row T oT oP) (ok_law_made d_made oI) (ok_div d_div T) (ok_law_times d_times T (ok_law_time d_time T)) (ok_law_time d_time T) (ok_unit d_unit oI) (ok_empty d_empty oI) oR oC
theorem rc_mk {K : PySem.W.Frag} {mg : Str → Option Value} {C : Addr} (pg : PySem.W.plainGet K C Str.empty = true) (hd : PySem.W.hasDictIn K C = true) (po : PySem.W.plainOver K C = true) (sa : PySem.W.findIn K (.ref C) "__setattr__" = some (some (.builtin "object.__setattr__")))
    (nF : PySem.W.findIn K (.ref C) "first" = some none) (nA : PySem.W.findIn K (.ref C) "again" = some none) (nM : PySem.W.findIn K (.ref C) "more" = some none) : RowCls K mg C := ⟨⟨pg, hd, po, sa⟩, nF, nA, nM⟩
theorem end_mk {P : Program} {w : World} {K : PySem.W.Frag} {h : Heap} {mg : Str → Option Value} {C fa f : Addr} (X : K.In h) (G : h.Ns mainGlobals mg) (hfa : mg "law" = some (.ref fa))
    {oc : Value} {od an : Option Addr} {osl : Array (Option Value)} {kV doc pm cdv ct : Value}
    (d_init : DfI K mg C "Row" "Row.__init__" s_Row_init (.int 0) ["self", "first", "again", "more"])
    (a : PySem.W.nsIn K mainGlobals "law" = some (some (.ref f))) (l : K.lookup f = some ⟨oc, od, .func (PySem.W.fnOf "law" "law" (defArgs s_law) (defBody s_law) (defScope s_law) .none kV doc pm an cdv ct), osl⟩) (c : PySem.W.codeIn K cdv "law" = true) (k : PySem.W.keepIn K (.ref f) = true)
    (T : Txt mg) (R : RowCls K mg C) (g : mg "gcd" = some (.builtin "math.gcd"))
    (d_is_integer : Df K mg "is_integer" s_is_integer ["value"]) (d_is_number : Df K mg "is_number" s_is_number ["value"]) (d_is_sequence : Df K mg "is_sequence" s_is_sequence ["value"]) (d_low : Df K mg "in_lowest_terms" s_in_lowest_terms ["top", "bottom"])
    (d_rate : DfP K C "rate" "Row.rate" s_Row_rate ["self"]) (d_count : DfM K C "count" "Row.count" s_Row_count ["self", "time"])
    (d_rises : Df K mg "_rises" s_rises ["things"]) (d_wrong : Df K mg "_wrong_argument" s_wrong_argument ["first", "again", "more"]) (d_st : Df K mg "_shortest_turn" s_shortest_turn ["again", "more"]) (d_al : Df K mg "all_later" s_all_later ["things", "lasts"])
    (d_sf : Df K mg "_shortest_first" s_shortest_first ["things", "begin", "turn", "grow"]) (d_unit : Df K mg "unit" s_unit []) (d_empty : Df K mg "empty" s_empty []) (d_is_empty : Df K mg "is_empty" s_is_empty ["row"])
    (d_box : Df K mg "_law_box" s_law_box ["script", "k"]) (d_take : Df K mg "_law_take" s_law_take ["box", "many"]) (d_pick : Df K mg "_law_pick" s_law_pick ["box", "some"]) (d_row : Df K mg "_law_row" s_law_row ["box", "is_low"])
    (d_time : Df K mg "_law_time" s_law_time ["told", "n"]) (d_times : Df K mg "_law_times" s_law_times ["told", "many"]) (d_made : Df K mg "_law_made" s_law_made ["told"]) (d_div : Df K mg "_law_divisor" s_law_divisor ["one", "other"]) :
    ∃ fd : FuncData, (∀ (s : Shared) (v : Value), BindsTo s fd ⟨[v], []⟩ [("script", v)]) ∧ ∀ base : Heap, K.In base → base.Ns mainGlobals mg → FnOk P w K mg base CX0 8 fa fd ["script"] (spLaw K) := by
  have e := hfa.symm.trans (PySem.W.mg_of X G a)
  cases e
  exact ⟨_, fun s v => .of_eq rfl, fun base _ _ => all_ok T R g d_is_integer d_is_number d_is_sequence d_low d_init d_rate d_count d_rises d_wrong d_st d_al d_sf d_unit d_empty d_is_empty d_box d_take d_pick d_row d_time d_times d_made d_div (fun_mk (st := s_law) l c k) base⟩
end My

open PySem PySem.W PyProof.Rows in
set_option maxHeartbeats 0 in
theorem PySem.Challenge.cw_waitworks_k05_rates_and_counts_holds : PySem.Challenge.rw_waitworks_k05_rates_and_counts.Holds := by
  w_on; o_law; k_head; (case hw => w_witness2)
  k_fill
  refine L2.walk_of (l := PySem.Challenge.rw_waitworks_k05_rates_and_counts) (n := 63) (k := 8) (x := "script") (CX := fun _ => L2.CX0) (sp := fun w => My.spLaw _) rfl (by decide) rfl ⟨rfl, by decide, by decide⟩ (fun w h Y => PySem.W.kIn_of Y) ?F (fun _ _ a ns hl _ hS => ⟨a, ns, rfl, hS, hl, fun _ => rfl⟩) (fun _ _ _ _ _ h => h)
  case F =>
    intro w mg fa h KX G hmg
    refine' My.end_mk KX G hmg ?dI ?aL ?lL ?cL ?kL ?tx ?rc ?gg ?d1 ?d2 ?d3 ?d4 ?dR ?dC ?d5 ?d6 ?d7 ?d8 ?d9 ?d10 ?d11 ?d12 ?d13 ?d14 ?d15 ?d16 ?d17 ?d18 ?d19 ?d20
    (case dI => (refine' My.dfi_mk KX G ?aC ?a ?i ?mk ?kc ?l ?lT ?oT ⟨_, rfl⟩ ?c ?k (fun _ _ _ _ _ _ _ us its hl h1 => match us, hl, its, h1 with | [_, _, _, _], _, [_], _ => ⟨_, rfl, rfl⟩)); (case aC => k_is); (case a => k_is); (case i => k_is); (case mk => k_is); (case kc => k_is); (case l => k_is); (case lT => k_is); (case oT => rfl); (case c => k_is); (case k => k_is))
    (case aL => k_is)
    (case lL => k_is)
    (case cL => k_is)
    (case kL => k_is)
    (case tx => refine' ⟨mg_none_of KX G ?_, mg_none_of KX G ?_, mg_none_of KX G ?_, mg_none_of KX G ?_, mg_none_of KX G ?_, mg_none_of KX G ?_, mg_none_of KX G ?_, mg_none_of KX G ?_, mg_none_of KX G ?_, mg_none_of KX G ?_, mg_none_of KX G ?_, mg_none_of KX G ?_⟩ <;> k_is)
    (case rc => (refine' My.rc_mk ?pg ?hd ?po ?sa ?nF ?nA ?nM); (case pg => k_is); (case hd => k_is); (case po => k_is); (case sa => k_is); (case nF => k_is); (case nA => k_is); (case nM => k_is))
    (case gg => (refine' mg_of KX G ?_); k_is)
    (case d1 => (refine' My.df_mk KX G ?a ?l ?c ?k (fun _ _ _ _ _ _ us hl => match us, hl with | [_], _ => rfl)); (case a => k_is); (case l => k_is); (case c => k_is); (case k => k_is))
    (case d2 => (refine' My.df_mk KX G ?a ?l ?c ?k (fun _ _ _ _ _ _ us hl => match us, hl with | [_], _ => rfl)); (case a => k_is); (case l => k_is); (case c => k_is); (case k => k_is))
    (case d3 => (refine' My.df_mk KX G ?a ?l ?c ?k (fun _ _ _ _ _ _ us hl => match us, hl with | [_], _ => rfl)); (case a => k_is); (case l => k_is); (case c => k_is); (case k => k_is))
    (case d4 => (refine' My.df_mk KX G ?a ?l ?c ?k (fun _ _ _ _ _ _ us hl => match us, hl with | [_, _], _ => rfl)); (case a => k_is); (case l => k_is); (case c => k_is); (case k => k_is))
    (case dR => (refine' My.dfp_mk ?a ?g ?t ?r ?l ?c ?k (fun _ _ _ _ _ _ us hl => match us, hl with | [_], _ => rfl)); (case a => k_is); (case g => k_is); (case t => k_is); (case r => k_is); (case l => k_is); (case c => k_is); (case k => k_is))
    (case dC => (refine' My.dfm_mk ?a ?i ?l ?c ?k (fun _ _ _ _ _ _ us hl => match us, hl with | [_, _], _ => rfl)); (case a => k_is); (case i => k_is); (case l => k_is); (case c => k_is); (case k => k_is))
    (case d5 => (refine' My.df_mk KX G ?a ?l ?c ?k (fun _ _ _ _ _ _ us hl => match us, hl with | [_], _ => rfl)); (case a => k_is); (case l => k_is); (case c => k_is); (case k => k_is))
    (case d6 => (refine' My.df_mk KX G ?a ?l ?c ?k (fun _ _ _ _ _ _ us hl => match us, hl with | [_, _, _], _ => rfl)); (case a => k_is); (case l => k_is); (case c => k_is); (case k => k_is))
    (case d7 => (refine' My.df_mk KX G ?a ?l ?c ?k (fun _ _ _ _ _ _ us hl => match us, hl with | [_, _], _ => rfl)); (case a => k_is); (case l => k_is); (case c => k_is); (case k => k_is))
    (case d8 => (refine' My.df_mk KX G ?a ?l ?c ?k (fun _ _ _ _ _ _ us hl => match us, hl with | [_, _], _ => rfl)); (case a => k_is); (case l => k_is); (case c => k_is); (case k => k_is))
    (case d9 => (refine' My.df_mk KX G ?a ?l ?c ?k (fun _ _ _ _ _ _ us hl => match us, hl with | [_, _, _, _], _ => rfl)); (case a => k_is); (case l => k_is); (case c => k_is); (case k => k_is))
    (case d10 => (refine' My.df_mk KX G ?a ?l ?c ?k (fun _ _ _ _ _ _ us hl => match us, hl with | [], _ => rfl)); (case a => k_is); (case l => k_is); (case c => k_is); (case k => k_is))
    (case d11 => (refine' My.df_mk KX G ?a ?l ?c ?k (fun _ _ _ _ _ _ us hl => match us, hl with | [], _ => rfl)); (case a => k_is); (case l => k_is); (case c => k_is); (case k => k_is))
    (case d12 => (refine' My.df_mk KX G ?a ?l ?c ?k (fun _ _ _ _ _ _ us hl => match us, hl with | [_], _ => rfl)); (case a => k_is); (case l => k_is); (case c => k_is); (case k => k_is))
    (case d13 => (refine' My.df_mk KX G ?a ?l ?c ?k (fun _ _ _ _ _ _ us hl => match us, hl with | [_, _], _ => rfl)); (case a => k_is); (case l => k_is); (case c => k_is); (case k => k_is))
    (case d14 => (refine' My.df_mk KX G ?a ?l ?c ?k (fun _ _ _ _ _ _ us hl => match us, hl with | [_, _], _ => rfl)); (case a => k_is); (case l => k_is); (case c => k_is); (case k => k_is))
    (case d15 => (refine' My.df_mk KX G ?a ?l ?c ?k (fun _ _ _ _ _ _ us hl => match us, hl with | [_, _], _ => rfl)); (case a => k_is); (case l => k_is); (case c => k_is); (case k => k_is))
    (case d16 => (refine' My.df_mk KX G ?a ?l ?c ?k (fun _ _ _ _ _ _ us hl => match us, hl with | [_, _], _ => rfl)); (case a => k_is); (case l => k_is); (case c => k_is); (case k => k_is))
    (case d17 => (refine' My.df_mk KX G ?a ?l ?c ?k (fun _ _ _ _ _ _ us hl => match us, hl with | [_, _], _ => rfl)); (case a => k_is); (case l => k_is); (case c => k_is); (case k => k_is))
    (case d18 => (refine' My.df_mk KX G ?a ?l ?c ?k (fun _ _ _ _ _ _ us hl => match us, hl with | [_, _], _ => rfl)); (case a => k_is); (case l => k_is); (case c => k_is); (case k => k_is))
    (case d19 => (refine' My.df_mk KX G ?a ?l ?c ?k (fun _ _ _ _ _ _ us hl => match us, hl with | [_], _ => rfl)); (case a => k_is); (case l => k_is); (case c => k_is); (case k => k_is))
    (case d20 => (refine' My.df_mk KX G ?a ?l ?c ?k (fun _ _ _ _ _ _ us hl => match us, hl with | [_, _], _ => rfl)); (case a => k_is); (case l => k_is); (case c => k_is); (case k => k_is))
