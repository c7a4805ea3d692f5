import PyProof.Rows.All
import Wide.All
import OpenK.AllK
import Wide.FinOn
import HandS.ForMost
import HandS.Codes
import HandS.IsInst
import HandS.Property
import HandS.Star
import HandS.Gcd
import HandS.Defaults
import HandS.Exc
import HandS.ExcInit
import HandS.ExcField
import HandS.WordsExc
import HandS.ExcOwn
import KE.KExcIs
import HandS.ExcIs
import PySem.Challenge.RW_waitworks_k03_rows_refused
set_option Elab.async false
set_option maxRecDepth 100000
set_option autoImplicit false
namespace My
open PySem PySem.Spec PyProof.Rows L2
/-! ## general: either of two readings; defs and methods as one fact each; heaps -/
section
variable {X : Cx}
/-- either of two readings of an expression -/
theorem pe_alt {e : Expr} {t1 t2 : TE} (h1 : PE X e t1) (h2 : PE X e t2) : PE X e (fun σ H Q => t1 σ H Q ∨ t2 σ H Q) :=
  ⟨fun pins s σ H Q I h => h.elim (h1.run pins s σ H Q I) (h2.run pins s σ H Q I)⟩
theorem pi_alt {g e : Expr} {t1 t2 : TI} (h1 : PI X g e t1) (h2 : PI X g e t2) : PI X g e (fun σ H R => t1 σ H R ∨ t2 σ H R) :=
  ⟨fun pins s σ H R I h => h.elim (h1.run pins s σ H R I) (h2.run pins s σ H R I)⟩
theorem pss_alt {ss : List Stmt} {t1 t2 : TS} (h1 : PSs X ss t1) (h2 : PSs X ss t2) : PSs X ss (fun D σ H => t1 D σ H ∨ t2 D σ H) :=
  ⟨fun pins s σ H D I h => h.elim (h1.run pins s σ H D I) (h2.run pins s σ H D I)⟩
end
section
variable {P : Program} {w : World} {K : PySem.W.Frag} {mg : Str → Option Value} {base : Heap}
/-- the module's name x is a def that keeps a promise -/
structure Own (P : Program) (w : World) (K : PySem.W.Frag) (mg : Str → Option Value) (base : Heap) (x : Str) (k : Nat) (ps : List Str) (sp : Sp) : Prop where
  ex : ∃ f fd, FnOk P w K mg base CX0 k f fd ps sp ∧ mg x = some (.ref f) ∧ PySem.W.keepIn K (.ref f) = true ∧ Binds K fd ps []
/-- the module's name x is the def st -/
structure Df (K : PySem.W.Frag) (mg : Str → Option Value) (x : Str) (st : Stmt) (ps : List Str) : Prop where
  ex : ∃ f fd, Fun K x x st f fd ∧ mg x = some (.ref f) ∧ Binds K fd ps []
theorem Df.own {x : Str} {st : Stmt} {ps N : List Str} {k : Nat} {sp : Sp} (D : Df K mg x st ps) (S : FnScope N ps (defScope st)) (len : ∀ vs H Q E, sp vs H Q E → vs.length = ps.length)
    (hbody : ∀ (f : Addr) (cdv : Value) (A : Around) (outer : List Env) (s : Shared) (H : Hp) (vs : List V) (Q : VK) (E : XK), Room k (A.deeper (envOfC x (defScope st) s.heap.objs.size f cdv)) → sp vs H Q E →
      ∃ t, PSs (cxOf CX0 P w K mg base N x (defScope st) f cdv A outer s H E).nox (defBody st) t ∧ t { nx := fun _ H' => Q .non H', rt := Q } (start N vs) H) : Own P w K mg base x (k + 1) ps sp := by
  obtain ⟨f, fd, F, m, b⟩ := D.ex
  exact ⟨f, fd, F.ok S len (hbody f), m, F.kp, b⟩
theorem Own.imp {x : Str} {k j : Nat} {ps : List Str} {sp sp' : Sp} (O : Own P w K mg base x k ps sp) (hk : k ≤ j) (h : ∀ vs H Q E, sp' vs H Q E → sp vs H Q E) : Own P w K mg base x j ps sp' := by
  obtain ⟨f, fd, F, r⟩ := O.ex
  exact ⟨f, fd, (F.mono hk).imp h, r⟩
/-- a method of the class at C -/
structure Mth (P : Program) (w : World) (K : PySem.W.Frag) (mg : Str → Option Value) (base : Heap) (C : Addr) (m : Str) (k : Nat) (ps : List Str) (sp : Sp) : Prop where
  ex : ∃ f fd, FnOk P w K mg base CX0 k f fd ps sp ∧ Meth K C m f ∧ Binds K fd ps []
structure Prp (P : Program) (w : World) (K : PySem.W.Frag) (mg : Str → Option Value) (base : Heap) (C : Addr) (m : Str) (k : Nat) (ps : List Str) (sp : Sp) : Prop where
  ex : ∃ p f fd, FnOk P w K mg base CX0 k f fd ps sp ∧ PropOf K C m p f ∧ Binds K fd ps []
/-- the module's name x is a class whose __init__ keeps a promise -/
structure Mks (P : Program) (w : World) (K : PySem.W.Frag) (mg : Str → Option Value) (base : Heap) (x : Str) (C : Addr) (k : Nat) (ps : List Str) (sp : Sp) : Prop where
  ex : ∃ f fd, FnOk P w K mg base CX0 k f fd ps sp ∧ mg x = some (.ref C) ∧ Mk K C f ∧ Binds K fd ps []
end
section
variable {X : Cx} {x m : Str} {p pos apos : Pos} {e o : Expr} {es : List Expr} {t : TA} {ta : TE} {k : Nat} {ps : List Str} {sp : Sp} {C : Addr}
theorem pe_own (O : Own X.prog X.w X.K X.mg X.base x k ps sp) (hr : Room k X.A) (ha : PA X (e :: es) t) (hg : Gl X x := by exact rfl) (hdb : (x == ("__debug__" : Str)) = false := by decide)
    (he : starEach (e :: es) X.env = (false, eval e X.env) :: starEach es X.env := by rfl) (hpl : (backTo pos (starEach es X.env)).any (·.1) = false := by rfl) : PE X (.Call (.Name x p) (e :: es) [] pos) (tCall sp [] E0 t) := by
  obtain ⟨f, fd, G, hm, hk, hb⟩ := O.ex
  exact pe_call G hr hg hm hk hb .nil pass0 ha hdb he hpl
theorem pe_own0 (O : Own X.prog X.w X.K X.mg X.base x k ps sp) (hr : Room k X.A) (hg : Gl X x := by exact rfl) (hdb : (x == ("__debug__" : Str)) = false := by decide) : PE X (.Call (.Name x p) [] [] pos) (tCall sp [] E0 tNil) := by
  obtain ⟨f, fd, G, hm, hk, hb⟩ := O.ex
  exact pe_call0 G hr hg hm hk hb .nil pass0 hdb
theorem pe_mks (O : Mks X.prog X.w X.K X.mg X.base x C k ps sp) (hr : Room (k + 1) X.A) (ha : PA X (e :: es) t) (hg : Gl X x := by exact rfl) (hdb : (x == ("__debug__" : Str)) = false := by decide)
    (he : starEach (e :: es) X.env = (false, eval e X.env) :: starEach es X.env := by rfl) (hpl : (backTo pos (starEach es X.env)).any (·.1) = false := by rfl) : PE X (.Call (.Name x p) (e :: es) [] pos) (tMake C sp [] E0 t) := by
  obtain ⟨f, fd, G, hm, M, hb⟩ := O.ex
  exact pe_make M G hr hg hm hb .nil pass0 ha hdb he hpl
theorem pe_mth (c : Cls X.K C) (O : Mth X.prog X.w X.K X.mg X.base C m k ps sp) (hr : Room k X.A) (he : PE X o ta) (ha : PA X (e :: es) t)
    (hst : starEach (e :: es) X.env = (false, eval e X.env) :: starEach es X.env := by rfl) (hpl : (backTo pos (starEach es X.env)).any (·.1) = false := by rfl)
    {pl : Sem Bool} (ht : eval (.Call (.Attribute o m apos) (e :: es) [] pos) X.env = (do
      let ov ← eval o X.env
      standAt apos.atName
      let (f, first) ← holding [ov] (getMethod ov m pl)
      callWith pos f first (backTo pos (starEach (e :: es) X.env)) (backToKw pos (keywordEach [] X.env))) := by rfl) : PE X (.Call (.Attribute o m apos) (e :: es) [] pos) (tMeth C m sp [] E0 ta t) := by
  obtain ⟨f, fd, G, M, hb⟩ := O.ex
  exact pe_meth he c M G hr hb .nil pass0 ha hst hpl ht
theorem pe_prp (c : Cls X.K C) (O : Prp X.prog X.w X.K X.mg X.base C m k ps sp) (hr : Room (k + 1) X.A) (he : PE X o ta) (hab : attributeBase o m X.env (eval o X.env) = eval o X.env := by rfl) : PE X (.Attribute o m pos) (tProp C sp [] E0 ta) := by
  obtain ⟨q, f, fd, G, M, hb⟩ := O.ex
  exact pe_prop he c M G hr hb .nil pass0 hab
end
/-! ## heaps -/
theorem same_upd {H : Hp} {p : Addr} {o : HO} (h : H p = none) : Same H (upd H p o) := fun b x e => by
  rw [upd_ne (ne_of_none e h)]
  exact e
theorem _root_.L2.Same.seqT {K : PySem.W.Frag} {H H' : Hp} {a : Addr} {xs : List V} (e : Same H H') (h : SqT K H a xs) : SqT K H' a xs := by
  rcases h with (h | ⟨o, h⟩) | h
  · exact .inl (.inl (e _ _ h))
  · exact .inl (.inr ⟨o, e _ _ h⟩)
  · exact .inr h
theorem new_lst {Q : VK} {xs : List V} {H : Hp} (hl : xs.length ≤ sizeLine) (h : ∀ p H', Same H H' → H p = none → H' p = some (.lst xs) → Q (.ref p) H') : xs.length ≤ sizeLine ∧ ∀ p, H p = none → Q (.ref p) (upd H p (.lst xs)) :=
  ⟨hl, fun p hp => h p _ (same_upd hp) hp upd_same⟩
theorem new_tup {Q : VK} {xs : List V} {H : Hp} (hl : xs.length ≤ sizeLine) (h : ∀ p H', Same H H' → H p = none → H' p = some (.tup xs) → Q (.ref p) H') : xs.length ≤ sizeLine ∧ ∀ p, H p = none → Q (.ref p) (upd H p (.tup xs)) :=
  ⟨hl, fun p hp => h p _ (same_upd hp) hp upd_same⟩
theorem new_o {Q : VK} {o : HO} {H : Hp} (h : ∀ p H', Same H H' → H p = none → H' p = some o → Q (.ref p) H') : ∀ p, H p = none → Q (.ref p) (upd H p o) :=
  fun p hp => h p _ (same_upd hp) hp upd_same
end My
namespace My
open PySem PySem.Spec PyProof.Rows L2
/-! ## readings in one step -/
theorem rd_isi {K : PySem.W.Frag} {H : Hp} {Q : VK} {x : V} {m : String} (n : String) (b : Bool) (ty : TyX K H x (.type n)) (h : kitB n m = some b) (q : Q (.bl b) H) : rIsi K [x, .ty m] H Q :=
  ⟨_, _, _, _, _, rfl, .ty _, ty, kit_ty h, q⟩
theorem rd_isi2 {K : PySem.W.Frag} {H : Hp} {Q : VK} {x : V} {m m' : String} {tp : Addr} (n : String) (b b' : Bool) (ht : H tp = some (.tup [.ty m, .ty m'])) (ty : TyX K H x (.type n)) (h : kitB n m = some b) (h' : kitB n m' = some b') (q : Q (.bl (b || b')) H) : rIsiT K [x, .ref tp] H Q :=
  ⟨_, _, _, _, _, _, rfl, ht, .cons (.ty _) (.cons (.ty _) .nil), ty, kitAny_cons (kit_ty h) (fun e => kitAny_cons (r := b || b') (kit_ty h') (fun e' => by rw [e, e']; rfl) (fun e' => by rw [e, e']; rfl)) (fun e => by rw [e]; rfl), q⟩
end My
namespace My
open PySem PySem.Spec PyProof.Rows L2
/-! ## a list or a tuple -/
def SqS (K : PySem.W.Frag) (H : Hp) (a : Addr) (xs : List V) : Prop := SqL K H a xs ∨ SqT K H a xs
theorem _root_.L2.Same.sqs {K : PySem.W.Frag} {H H' : Hp} {a : Addr} {xs : List V} (e : Same H H') (h : SqS K H a xs) : SqS K H' a xs := h.imp e.seq e.seqT
/-- how a walk over such a thing goes, as long as what is tracked in H0 stands -/
structure SeqIt (H0 : Hp) (xs : List V) (J : It) : Prop where
  go : ∀ i H, Same H0 H → i < xs.length → J.go i H
  yld : ∀ i H x H', Same H0 H → J.yld i H x H' → H' = H ∧ xs[i]? = some x
  stop : ∀ i H, Same H0 H → xs.length ≤ i → J.stop i H
theorem seqIt_l {K : PySem.W.Frag} {H0 : Hp} {a : Addr} {xs : List V} (h : SqL K H0 a xs) : SeqIt H0 xs (Itl K a) :=
  ⟨fun i H s l => ⟨xs, xs[i], s.seq h, by simp [l]⟩, fun i H x H' s y => ⟨y.1, y.2 xs (s.seq h)⟩, fun i H s l => ⟨xs, s.seq h, l⟩⟩
theorem seqIt_t {K : PySem.W.Frag} {H0 : Hp} {a : Addr} {xs : List V} (h : SqT K H0 a xs) : SeqIt H0 xs (Itt K a) :=
  ⟨fun i H s l => ⟨xs, xs[i], s.seqT h, by simp [l]⟩, fun i H x H' s y => ⟨y.1, y.2 xs (s.seqT h)⟩, fun i H s l => ⟨xs, s.seqT h, l⟩⟩
theorem seq_pi {K : PySem.W.Frag} {a : Addr} {xs : List V} {i : Nat} {σ : L2.St} {H : Hp} {R : It → Hp → Prop} (h : SqS K H a xs) (hv : σ[i]? = some (some (.ref a))) (hR : ∀ J, SeqIt H xs J → R J H) : iList K (tVar i) σ H R ∨ iTup K (tVar i) σ H R :=
  h.elim (fun h => Or.inl ⟨_, hv, a, rfl, ⟨_, h⟩, hR _ (seqIt_l h)⟩) fun h => Or.inr ⟨_, hv, a, rfl, ⟨_, h⟩, hR _ (seqIt_t h)⟩
theorem for_seq {J : It} {H0 : Hp} {xs : List V} {g : TG} {tb : TS} {D : Ends} {σ : L2.St} {H : Hp} (hJ : SeqIt H0 xs J) (Pv : Nat → L2.St → Hp → Prop) (h0 : Pv 0 σ H) (hl : ∀ i σ H, Pv i σ H → Same H0 H)
    (hs : ∀ i x σ H, xs[i]? = some x → Pv i σ H → g x σ H fun σ2 H2 => tb { D with nx := Pv (i + 1), ct := Pv (i + 1), bk := D.nx } σ2 H2) (hd : ∀ σ H, Pv xs.length σ H → D.nx σ H) :
    ∃ W : Nat → Nat → L2.St → Hp → Prop, (∃ m, W 0 m σ H) ∧ ∀ i m σ H, W i m σ H →
      (J.stop i H ∧ D.nx σ H) ∨ (J.go i H ∧ ∃ N : L2.St → Hp → Prop, (∀ σ' H', N σ' H' → ∃ m', m' < m ∧ W (i + 1) m' σ' H') ∧ ∀ x H', J.yld i H x H' → g x σ H' fun σ2 H2 => tb { D with nx := N, ct := N, bk := D.nx } σ2 H2) := by
  refine ⟨fun i m σ H => m + i = xs.length ∧ Pv i σ H, ⟨xs.length, by omega, h0⟩, fun i m σ H q => ?_⟩
  obtain ⟨em, p⟩ := q
  have s := hl i σ H p
  by_cases hlt : i < xs.length
  · refine Or.inr ⟨hJ.go i H s hlt, Pv (i + 1), fun σ' H' p' => ⟨m - 1, by omega, by omega, p'⟩, fun x H' y => ?_⟩
    obtain ⟨rfl, e⟩ := hJ.yld i H x H' s y
    exact hs i x _ _ e p
  · have e : i = xs.length := by omega
    subst e
    exact Or.inl ⟨hJ.stop _ H s (Nat.le_refl _), hd _ _ p⟩
theorem lc_seq {J : It} {H0 : Hp} {xs : List V} {g : TG} {tt : TT} {te : TE} {vs : List Nat} {σ : L2.St} {H1 : Hp} {D : Addr} {Qd : Hp → Prop} (hJ : SeqIt H0 xs J) (Pv : Nat → Hp → Prop) (h0 : Pv 0 (upd H1 D (.lst []))) (hl : ∀ i H, Pv i H → Same H0 H)
    (hs : ∀ i x H, xs[i]? = some x → Pv i H → g x (wipe σ vs) H fun σ2 H2 => wipe σ2 vs = wipe σ vs ∧ tt σ2 H2 fun b H3 =>
      if b = true then te σ2 H3 fun y H4 => ∃ acc, H4 D = some (.lst acc) ∧ acc.length < sizeLine ∧ Pv (i + 1) (upd H4 D (.lst (acc ++ [y]))) else Pv (i + 1) H3) (hd : ∀ H, Pv xs.length H → Qd H) :
    ∃ W : Nat → Nat → Hp → Prop, (∃ m, W 0 m (upd H1 D (.lst []))) ∧ ∀ i m H, W i m H →
      (J.stop i H ∧ Qd H) ∨ (J.go i H ∧ ∃ Nx : Hp → Prop, (∀ H', Nx H' → ∃ m', m' < m ∧ W (i + 1) m' H') ∧ ∀ x H', J.yld i H x H' → g x (wipe σ vs) H' fun σ2 H2 => wipe σ2 vs = wipe σ vs ∧ tt σ2 H2 fun b H3 =>
        if b = true then te σ2 H3 fun y H4 => ∃ acc, H4 D = some (.lst acc) ∧ acc.length < sizeLine ∧ Nx (upd H4 D (.lst (acc ++ [y]))) else Nx H3) := by
  refine ⟨fun i m H => m + i = xs.length ∧ Pv i H, ⟨xs.length, by omega, h0⟩, fun i m H q => ?_⟩
  obtain ⟨em, p⟩ := q
  have s := hl i H p
  by_cases hlt : i < xs.length
  · refine Or.inr ⟨hJ.go i H s hlt, Pv (i + 1), fun H' p' => ⟨m - 1, by omega, by omega, p'⟩, fun x H' y => ?_⟩
    obtain ⟨rfl, e⟩ := hJ.yld i H x H' s y
    exact hs i x _ e p
  · have e : i = xs.length := by omega
    subst e
    exact Or.inl ⟨hJ.stop _ H s (Nat.le_refl _), hd _ p⟩
theorem new_facts {H H1 : Hp} {p : Addr} {o : HO} (hp : H p = none) (hq : upd H p o = H1) : Same H H1 ∧ H1 p = some o := by
  subst hq
  exact ⟨same_upd hp, upd_same⟩
theorem _root_.L2.Same.upd1 {H0 H : Hp} {p : Addr} {o : HO} (s : Same H0 H) (hp : H0 p = none) : Same H0 (upd H p o) := fun b x e => by
  rw [upd_ne (ne_of_none e hp)]
  exact s _ _ e
end My

namespace My
open PySem PySem.Spec PyProof.Rows L2
local macro_rules | `(tactic| walk_at "side") => `(tactic| first | (dsimp only; omega) | exact ⟨by omega, by omega⟩ | exact Or.inl ⟨by omega, by omega⟩ | exact Or.inr ⟨by omega, by omega⟩ | decide)
local macro_rules | `(tactic| walk_at "sq") => `(tactic| first | assumption | exact SqL.of (by assumption) | exact SqT.of (by assumption) | (refine L2.Same.seq (by assumption) ?_; walk_at "sq") | (refine L2.Same.seqT (by assumption) ?_; walk_at "sq") | exact Or.inl (by walk_at "sq") | exact Or.inr (by walk_at "sq"))
local macro_rules | `(tactic| walk_at "1") => `(tactic| first
  | refine ⟨_, rfl, iteT ?_⟩
  | refine ⟨_, rfl, iteF ?_⟩
  | refine ⟨_, rfl, ?_⟩
  | refine ⟨_, _, rfl, rfl, (by walk_at "side"), ?_⟩
  | refine ⟨_, _, rfl, rfl, ?_⟩
  | refine ⟨_, _, _, _, true, rfl, .ty _, .base (.int _), kit_ty (a := "int") (by decide +kernel), ?_⟩
  | refine ⟨_, _, _, _, false, rfl, .ty _, .base (.int _), kit_ty (a := "int") (by decide +kernel), ?_⟩
  | refine ⟨_, _, rfl, (by walk_at "sq"), ?_⟩
  | refine ⟨_, _, _, _, rfl, rfl, (by walk_at "sq"), (by first | rfl | assumption), ?_⟩
  | refine Or.inl ⟨_, _, _, _, rfl, rfl, (by walk_at "sq"), (by first | rfl | assumption), ?_⟩
  | refine Or.inr (Or.inl ⟨_, _, _, _, rfl, rfl, (by walk_at "sq"), (by first | rfl | assumption), ?_⟩)
  | refine ⟨_, _, rfl, Or.inl ⟨(by walk_at "sq"), ?_⟩⟩
  | refine ⟨rfl, ?_⟩
  | refine iteT ?_
  | refine iteF ?_
  | refine ⟨_, _, _, _, _, rfl, (by assumption), (by assumption), (by assumption), (by assumption), ?_⟩
  | refine ⟨_, _, _, rfl, (by assumption), rfl, ?_⟩
  | refine Or.inl ⟨_, rfl, ?_⟩
  | refine Or.inr ⟨_, rfl, ?_⟩
  | refine ⟨_, _, rfl, (by walk_at "side"), ?_⟩
  | refine ⟨_, _, rfl, ?_⟩)
local macro_rules | `(tactic| walk_at "fld") => `(tactic| skip)
local macro_rules | `(tactic| walk_at "s") => `(tactic| repeat walk_at "1")
local macro_rules | `(tactic| walk_at "size") => `(tactic| first | exact Nat.le_of_ble_eq_true rfl | (simp only [List.length_map, List.length_append, List.length_cons, List.length_nil]; omega))
local macro_rules | `(tactic| walk_at "new") => `(tactic| (first | refine ⟨(by walk_at "size"), fun p hp => ?_⟩ | refine fun p hp => ?_); (generalize hq : upd _ p _ = H1); (obtain ⟨s, e⟩ := new_facts hp hq); clear hq)

def topS (i : Nat) : Stmt := PySem.Challenge.pw_waitworks_k03_rows_refused.main.body.getD i (.Pass ⟨0, 0, 0, 0⟩)
/-- what of the built-in names is still built-in -/
structure Txt (mg : Str → Option Value) : Prop where
  int : mg "int" = none
  len : mg "len" = none
  abs : mg "abs" = none
  bool : mg "bool" = none
  list : mg "list" = none
  tuple : mg "tuple" = none
  range : mg "range" = none
  isinstance : mg "isinstance" = none
/-- a time or nothing as a value -/
def ov : Option Int → V
  | none => .non
  | some i => .int i
theorem ov_non (t : Option Int) : decide (ov t = .non) = t.isNone := by cases t <;> rfl
def SqH (H : Hp) (a : Addr) (xs : List V) : Prop := H a = some (.lst xs) ∨ H a = some (.tup xs)
theorem SqH.sqs {K : PySem.W.Frag} {H : Hp} {a : Addr} {xs : List V} (h : SqH H a xs) : SqS K H a xs := h.imp SqL.of SqT.of
theorem _root_.L2.Same.sqh {H H' : Hp} {a : Addr} {xs : List V} (e : Same H H') (h : SqH H a xs) : SqH H' a xs := h.imp (e _ _) (e _ _)
/-- what a thing in a list is: a time, nothing, or neither (none) -/
abbrev El := Option (Option Int)
inductive ElAt (H : Hp) : V → El → Prop where
  | non : ElAt H .non (some none)
  | int (i : Int) : ElAt H (.int i) (some (some i))
  | bl (b : Bool) : ElAt H (.bl b) none
  | str (s : Str) : ElAt H (.str s) none
  | seq {a : Addr} {xs : List V} (h : SqH H a xs) : ElAt H (.ref a) none
inductive Els (H : Hp) : List V → List El → Prop where
  | nil : Els H [] []
  | cons {v : V} {vs : List V} {e : El} {es : List El} : ElAt H v e → Els H vs es → Els H (v :: vs) (e :: es)
/-- what an argument is: things in a row, or no such (none) -/
abbrev Arg := Option (List El)
inductive ArgAt (C : Addr) (H : Hp) : V → Arg → Prop where
  | non : ArgAt C H .non none
  | int (i : Int) : ArgAt C H (.int i) none
  | bl (b : Bool) : ArgAt C H (.bl b) none
  | str (s : Str) : ArgAt C H (.str s) none
  | obj {a dx : Addr} {fs : List (Str × V)} (h : H a = some (.ins C dx fs)) : ArgAt C H (.ref a) none
  | seq {a : Addr} {xs : List V} {es : List El} (h : SqH H a xs) (e : Els H xs es) : ArgAt C H (.ref a) (some es)
theorem ElAt.same {H H' : Hp} {v : V} {e : El} (h : ElAt H v e) (s : Same H H') : ElAt H' v e := by
  cases h with
  | non => exact .non
  | int i => exact .int i
  | bl b => exact .bl b
  | str x => exact .str x
  | seq h => exact .seq (s.sqh h)
theorem Els.same {H H' : Hp} {vs : List V} {es : List El} (h : Els H vs es) (s : Same H H') : Els H' vs es := by
  induction h with
  | nil => exact .nil
  | cons h _ ih => exact .cons (h.same s) ih
theorem ArgAt.same {C : Addr} {H H' : Hp} {v : V} {d : Arg} (h : ArgAt C H v d) (s : Same H H') : ArgAt C H' v d := by
  cases h with
  | non => exact .non
  | int i => exact .int i
  | bl b => exact .bl b
  | str x => exact .str x
  | obj h => exact .obj (s _ _ h)
  | seq h e => exact .seq (s.sqh h) (e.same s)
theorem Els.len {H : Hp} {vs : List V} {es : List El} (h : Els H vs es) : vs.length = es.length := by
  induction h with
  | nil => rfl
  | cons _ _ ih => simp [ih]
theorem Els.get {H : Hp} {vs : List V} {es : List El} (h : Els H vs es) : ∀ {i : Nat} {v : V}, vs[i]? = some v → ∃ e, es[i]? = some e ∧ ElAt H v e := by
  induction h with
  | nil => intro i v e; simp at e
  | cons h _ ih =>
    intro i v e
    cases i with
    | zero =>
      simp only [List.getElem?_cons_zero, Option.some.injEq] at e
      subst e
      exact ⟨_, rfl, h⟩
    | succ i => exact ih (by simpa using e)
/-- times and nothings as such things -/
theorem els_ov (H : Hp) : ∀ xs : List (Option Int), Els H (xs.map ov) (xs.map some)
  | [] => .nil
  | none :: r => .cons .non (els_ov H r)
  | some i :: r => .cons (.int i) (els_ov H r)
def isI : El → Bool
  | some (some _) => true
  | _ => false
def isN : El → Bool
  | some (some i) => decide (0 ≤ i)
  | _ => false
/-- what the class of rows must say, so that isinstance asks its objects rightly -/
structure RowIs (K : PySem.W.Frag) (C : Addr) : Prop where
  cl : Cls K C
  ha : PySem.W.findIn K (.ref C) "__class__" = some (some (.builtin "object.__class__"))
  hn : PySem.W.specialIn K (.builtin "object.__class__") "__get__" = some (some (.builtin "getset_descriptor.__get__"))
  ht : PySem.W.takesIn K (.builtin "object.__class__") = some true
  hm : PySem.W.mroIn K C (.type "object") = some true
  l : PySem.W.kitOne K (.ref C) (.type "list") = some false
  t : PySem.W.kitOne K (.ref C) (.type "tuple") = some false
section
variable {P : Program} {w : World} {K : PySem.W.Frag} {mg : Str → Option Value} {base : Heap}
/-! ### kinds -/
theorem rdI {H : Hp} {Q : VK} {x : V} (n m : String) (b : Bool) (ty : TyX K H x (.type n)) (h : kitB n m = some b) (q : Q (.bl b) H) : rIsi K [x, .ty m] H Q := rd_isi n b ty h q
abbrev s_is_integer : Stmt := topS 8
theorem sc_is_integer : FnScope ["value"] ["value"] (defScope s_is_integer) := ⟨rfl, rfl, rfl, by decide +kernel, rfl, by decide +kernel, by decide +kernel⟩
def spIsInt : Sp := fun vs H Q _ => ∃ (v : V) (e : El), vs = [v] ∧ ElAt H v e ∧ Q (.bl (isI e)) H
theorem ok_is_integer (D : Df K mg "is_integer" s_is_integer ["value"]) (T : Txt mg) : Own P w K mg base "is_integer" 1 ["value"] spIsInt := by
  refine D.own sc_is_integer (fun vs H Q E h => ?_) (fun f cdv A outer s H vs Q E hr h => ?_)
  · obtain ⟨v, e, rfl, _⟩ := h
    rfl
  · obtain ⟨v, e, rfl, hv, k⟩ := h
    refine ⟨_, (pss_one (ps_ret (pe_and (pe_callB call_isi (by rfl) T.isinstance (by decide +kernel) (pa_cons (pv 0) (pa_cons (pe_bltn (v := .ty "int") (by rfl) T.int (by decide +kernel) rfl) pa_nil))) (pe_one (pe_not (pe_callB call_isi (by rfl) T.isinstance (by decide +kernel) (pa_cons (pv 0) (pa_cons (pe_bltn (v := .ty "bool") (by rfl) T.bool (by decide +kernel) rfl) pa_nil)))))))), ?_⟩
    refine ⟨_, rfl, ?_⟩
    cases hv with
    | non =>
      refine ⟨_, _, _, _, false, rfl, .ty _, (.base .non), kit_ty (a := "NoneType") (b := "int") (by decide +kernel), ?_⟩
      walk_at "s"
      exact k
    | int i =>
      walk_at "s"
      exact k
    | bl b =>
      refine ⟨_, _, _, _, true, rfl, .ty _, (.base (.bl b)), kit_ty (a := "bool") (b := "int") (by decide +kernel), ?_⟩
      walk_at "s"
      refine ⟨_, _, _, _, true, rfl, .ty _, (.base (.bl b)), kit_ty (a := "bool") (b := "bool") (by decide +kernel), ?_⟩
      walk_at "s"
      exact k
    | str x =>
      refine ⟨_, _, _, _, false, rfl, .ty _, (.base (.str x)), kit_ty (a := "str") (b := "int") (by decide +kernel), ?_⟩
      walk_at "s"
      exact k
    | seq h =>
      rcases h with h | h
      · refine ⟨_, _, _, _, false, rfl, .ty _, (.base (.lst h)), kit_ty (a := "list") (b := "int") (by decide +kernel), ?_⟩
        walk_at "s"
        exact k
      · refine ⟨_, _, _, _, false, rfl, .ty _, (.base (.tup h)), kit_ty (a := "tuple") (b := "int") (by decide +kernel), ?_⟩
        walk_at "s"
        exact k
abbrev s_is_number : Stmt := topS 9
theorem sc_is_number : FnScope ["value"] ["value"] (defScope s_is_number) := ⟨rfl, rfl, rfl, by decide +kernel, rfl, by decide +kernel, by decide +kernel⟩
def spIsNum : Sp := fun vs H Q _ => ∃ (v : V) (e : El), vs = [v] ∧ ElAt H v e ∧ Q (.bl (isN e)) H
theorem ok_is_number (D : Df K mg "is_number" s_is_number ["value"]) (o_is_integer : Own P w K mg base "is_integer" 1 ["value"] spIsInt) : Own P w K mg base "is_number" 2 ["value"] spIsNum := by
  refine D.own sc_is_number (fun vs H Q E h => ?_) (fun f cdv A outer s H vs Q E hr h => ?_)
  · obtain ⟨v, e, rfl, _⟩ := h
    rfl
  · obtain ⟨v, e, rfl, hv, k⟩ := h
    refine ⟨_, (pss_one (ps_ret (pe_and (pe_own o_is_integer (hr.mono (by decide)) (pa_cons (pv 0) pa_nil)) (pe_one (pe_cmpR op_ge (pv 0) pe_int (nomark _)))))), ?_⟩
    refine ⟨_, rfl, ?_⟩
    refine ⟨_, _, rfl, hv, ?_⟩
    cases hv with
    | int i =>
      walk_at "s"
      exact k
    | non =>
      walk_at "s"
      exact k
    | bl b =>
      walk_at "s"
      exact k
    | str x =>
      walk_at "s"
      exact k
    | seq h =>
      walk_at "s"
      exact k
abbrev s_is_sequence : Stmt := topS 10
theorem sc_is_sequence : FnScope ["value"] ["value"] (defScope s_is_sequence) := ⟨rfl, rfl, rfl, by decide +kernel, rfl, by decide +kernel, by decide +kernel⟩
def spIsSeq (C : Addr) : Sp := fun vs H Q _ => ∃ (v : V) (d : Arg), vs = [v] ∧ ArgAt C H v d ∧ ∀ H', Same H H' → Q (.bl d.isSome) H'
theorem isiT2 {H : Hp} {Q : VK} {x : V} {tp : Addr} (t : Value) (b : Bool) (ht : H tp = some (.tup [.ty "list", .ty "tuple"])) (ty : TyX K H x t) (e : PySem.W.kitAny K t [.type "list", .type "tuple"] = some b) (q : Q (.bl b) H) : rIsiT K [x, .ref tp] H Q :=
  ⟨_, _, _, _, _, _, rfl, ht, .cons (.ty _) (.cons (.ty _) .nil), ty, e, q⟩
theorem ka2 {t : Value} {b b' : Bool} (h : PySem.W.kitOne K t (.type "list") = some b) (h' : PySem.W.kitOne K t (.type "tuple") = some b') : PySem.W.kitAny K t [.type "list", .type "tuple"] = some (b || b') := by
  cases b with
  | true => exact kitAny_cons h (fun z => nomatch z) (fun _ => rfl)
  | false =>
    refine kitAny_cons h (fun _ => ?_) (fun z => nomatch z)
    cases b' with
    | true => exact kitAny_cons h' (fun z => nomatch z) (fun _ => rfl)
    | false => exact kitAny_cons h' (fun _ => kitAny_nil) (fun z => nomatch z)
theorem ok_is_sequence {C : Addr} (D : Df K mg "is_sequence" s_is_sequence ["value"]) (T : Txt mg) (R : RowIs K C) : Own P w K mg base "is_sequence" 1 ["value"] (spIsSeq C) := by
  refine D.own sc_is_sequence (fun vs H Q E h => ?_) (fun f cdv A outer s H vs Q E hr h => ?_)
  · obtain ⟨v, d, rfl, _⟩ := h
    rfl
  · obtain ⟨v, d, rfl, hv, k⟩ := h
    refine ⟨_, (pss_one (ps_ret (pe_callB call_isiT (by rfl) T.isinstance (by decide +kernel) (pa_cons (pv 0) (pa_cons (pe_tup (pa_cons (pe_bltn (v := .ty "list") (by rfl) T.list (by decide +kernel) rfl) (pa_cons (pe_bltn (v := .ty "tuple") (by rfl) T.tuple (by decide +kernel) rfl) pa_nil))) pa_nil))))), ?_⟩
    refine ⟨_, rfl, ?_⟩
    walk_at "s"
    walk_at "new"
    rename_i t nt H1 s1 e1
    have k := k _ s1
    have hv := hv.same s1
    cases hv with
    | non => exact isiT2 _ _ e1 (.base .non) (ka2 (kit_ty (a := "NoneType") (by decide +kernel : kitB "NoneType" "list" = some false)) (kit_ty (a := "NoneType") (by decide +kernel : kitB "NoneType" "tuple" = some false))) k
    | int i => exact isiT2 _ _ e1 (.base (.int i)) (ka2 (kit_ty (a := "int") (by decide +kernel : kitB "int" "list" = some false)) (kit_ty (a := "int") (by decide +kernel : kitB "int" "tuple" = some false))) k
    | bl i => exact isiT2 _ _ e1 (.base (.bl i)) (ka2 (kit_ty (a := "bool") (by decide +kernel : kitB "bool" "list" = some false)) (kit_ty (a := "bool") (by decide +kernel : kitB "bool" "tuple" = some false))) k
    | str i => exact isiT2 _ _ e1 (.base (.str i)) (ka2 (kit_ty (a := "str") (by decide +kernel : kitB "str" "list" = some false)) (kit_ty (a := "str") (by decide +kernel : kitB "str" "tuple" = some false))) k
    | obj h => exact isiT2 _ _ e1 (.base (.ins h R.cl R.ha R.hn R.ht R.hm)) (ka2 R.l R.t) k
    | seq h e =>
      rcases h with h | h
      · exact isiT2 _ _ e1 (.base (.lst h)) (ka2 (kit_ty (a := "list") (by decide +kernel : kitB "list" "list" = some true)) (kit_ty (a := "list") (by decide +kernel : kitB "list" "tuple" = some false))) k
      · exact isiT2 _ _ e1 (.base (.tup h)) (ka2 (kit_ty (a := "tuple") (by decide +kernel : kitB "tuple" "list" = some false)) (kit_ty (a := "tuple") (by decide +kernel : kitB "tuple" "tuple" = some true))) k
/-! ### rows -/
def risesFrom : Option Int → List El → Bool
  | _, [] => true
  | _, none :: _ => false
  | none, some t :: r => risesFrom t r
  | some _, some none :: _ => false
  | some l, some (some x) :: r => if x < l then false else risesFrom (some x) r
abbrev s_rises : Stmt := topS 15
theorem sc_rises : FnScope ["things", "last", "thing"] ["things"] (defScope s_rises) := ⟨rfl, rfl, rfl, by decide +kernel, rfl, by decide +kernel, by decide +kernel⟩
def spRises : Sp := fun vs H Q _ => ∃ (a : Addr) (xs : List V) (es : List El), vs = [.ref a] ∧ SqH H a xs ∧ Els H xs es ∧ Q (.bl (risesFrom none es)) H
theorem ok_rises (D : Df K mg "_rises" s_rises ["things"]) (o_is_integer : Own P w K mg base "is_integer" 1 ["value"] spIsInt) : Own P w K mg base "_rises" 2 ["things"] spRises := by
  refine D.own sc_rises (fun vs H Q E h => ?_) (fun f cdv A outer s H vs Q E hr h => ?_)
  · obtain ⟨a, xs, es, rfl, _⟩ := h
    rfl
  · obtain ⟨a, xs, es, rfl, hS, hE, k⟩ := h
    refine ⟨_, (pss_cons (ps_set (i := 1) sc_rises.nd rfl (Or.inl rfl) pe_non)
  (pss_cons (ps_for PassesOwn.never rfl (pi_alt (pi_list (pv 0)) (pi_tup (pv 0))) (pg_name (i := 2) sc_rises.nd rfl (Or.inl rfl))
    (pss_one (ps_if (pt_cmpR op_notN (pv 2) pe_non (nomark _))
        (pss_cons (ps_if (PW.pt (pw_or (pt_not (pt_val (pe_own o_is_integer (hr.mono (by decide)) (pa_cons (pv 2) pa_nil)))) (pw_or1 (PW.pt (pw_and (pt_cmpR op_notN (pv 1) pe_non (nomark _)) (pw_and1 (pt_cmpR op_lt (pv 2) (pv 1) (nomark _))))))))
            (pss_one (ps_ret pe_bl))
            pss_nil)
          (pss_one (ps_set (i := 1) sc_rises.nd rfl (Or.inl rfl) (pv 2))))
        (pss_one (ps_if (pt_cmpR op_notN (pv 1) pe_non (nomark _))
            (pss_one (ps_ret pe_bl))
            pss_nil)))))
  (pss_one (ps_ret pe_bl)))), ?_⟩
    refine seq_pi (hS.sqs (K := K)) rfl fun J hJ => for_seq hJ (fun i σ H' => ∃ (l : Option Int) (y : Option V), σ = [some (.ref a), some (ov l), y] ∧ H' = H ∧ risesFrom l (es.drop i) = risesFrom none es)
      ⟨none, none, rfl, rfl, rfl⟩ (fun i σ H' ⟨_, _, _, e, _⟩ => e ▸ Same.refl _) ?_ ?_
    · rintro i x σ H' hi ⟨l, y, rfl, rfl, e⟩
      obtain ⟨t, ht, hx⟩ := hE.get hi
      have hd : es.drop i = t :: es.drop (i + 1) := by
        obtain ⟨q, rfl⟩ := List.getElem?_eq_some_iff.mp ht
        exact List.drop_eq_getElem_cons q
      rw [hd] at e
      have bad : ∀ l : Option Int, risesFrom l (none :: es.drop (i + 1)) = false := fun l => by cases l <;> rfl
      cases hx with
      | non =>
        walk_at "s"
        cases l with
        | none =>
          walk_at "s"
          first | exact e | exact ⟨none, _, rfl, rfl, e⟩
        | some l =>
          walk_at "s"
          rw [← e] at k
          exact k
      | int t =>
        walk_at "s"
        refine ⟨_, _, rfl, .int t, ?_⟩
        walk_at "s"
        cases l with
        | none =>
          walk_at "s"
          first | exact e | exact ⟨some t, _, rfl, rfl, e⟩
        | some l =>
          walk_at "s"
          refine ite2 (fun c => ?_) (fun c => ?_)
          · have c' : t < l := by simpa using c
            rw [← e, show risesFrom (some l) (some (some t) :: es.drop (i + 1)) = false from if_pos c'] at k
            exact k
          · have c' : ¬ t < l := by simpa using c
            walk_at "s"
            refine ⟨some t, _, rfl, rfl, ?_⟩
            rw [← e]
            exact (if_neg c').symm
      | bl b =>
        walk_at "s"
        refine ⟨_, _, rfl, .bl b, ?_⟩
        walk_at "s"
        rw [← e, bad] at k
        exact k
      | str b =>
        walk_at "s"
        refine ⟨_, _, rfl, .str b, ?_⟩
        walk_at "s"
        rw [← e, bad] at k
        exact k
      | seq b =>
        walk_at "s"
        refine ⟨_, _, rfl, .seq b, ?_⟩
        walk_at "s"
        rw [← e, bad] at k
        exact k
    · rintro σ H' ⟨l, y, rfl, rfl, e⟩
      have ed : es.drop xs.length = [] := List.drop_eq_nil_of_le (by rw [hE.len]; exact Nat.le_refl _)
      rw [ed] at e
      have et : risesFrom l [] = true := by cases l <;> rfl
      rw [← e, et] at k
      exact k
end
end My

namespace My
open PySem PySem.Spec PyProof.Rows L2
local macro_rules | `(tactic| walk_at "side") => `(tactic| first | (dsimp only; omega) | exact ⟨by omega, by omega⟩ | exact Or.inl ⟨by omega, by omega⟩ | exact Or.inr ⟨by omega, by omega⟩ | decide)
local macro_rules | `(tactic| walk_at "sq") => `(tactic| first | assumption | exact SqL.of (by assumption) | exact SqT.of (by assumption) | (refine L2.Same.seq (by assumption) ?_; walk_at "sq") | (refine L2.Same.seqT (by assumption) ?_; walk_at "sq") | exact Or.inl (by walk_at "sq") | exact Or.inr (by walk_at "sq"))
local macro_rules | `(tactic| walk_at "1") => `(tactic| first
  | refine ⟨_, rfl, iteT ?_⟩
  | refine ⟨_, rfl, iteF ?_⟩
  | refine ⟨_, rfl, ?_⟩
  | refine ⟨_, _, rfl, rfl, (by walk_at "side"), ?_⟩
  | refine ⟨_, _, rfl, rfl, ?_⟩
  | refine ⟨_, _, _, _, true, rfl, .ty _, .base (.int _), kit_ty (a := "int") (by decide +kernel), ?_⟩
  | refine ⟨_, _, _, _, false, rfl, .ty _, .base (.int _), kit_ty (a := "int") (by decide +kernel), ?_⟩
  | refine ⟨_, _, rfl, (by walk_at "sq"), ?_⟩
  | refine ⟨_, _, _, _, rfl, rfl, (by walk_at "sq"), (by first | rfl | assumption), ?_⟩
  | refine Or.inl ⟨_, _, _, _, rfl, rfl, (by walk_at "sq"), (by first | rfl | assumption), ?_⟩
  | refine Or.inr (Or.inl ⟨_, _, _, _, rfl, rfl, (by walk_at "sq"), (by first | rfl | assumption), ?_⟩)
  | refine ⟨_, _, rfl, Or.inl ⟨(by walk_at "sq"), ?_⟩⟩
  | refine ⟨rfl, ?_⟩
  | refine iteT ?_
  | refine iteF ?_
  | refine ⟨_, _, _, _, _, rfl, (by assumption), (by assumption), (by assumption), (by assumption), ?_⟩
  | refine ⟨_, _, _, rfl, (by assumption), rfl, ?_⟩
  | refine Or.inl ⟨_, rfl, ?_⟩
  | refine Or.inr ⟨_, rfl, ?_⟩
  | refine ⟨_, _, rfl, (by walk_at "side"), ?_⟩
  | refine ⟨_, _, rfl, ?_⟩)
local macro_rules | `(tactic| walk_at "fld") => `(tactic| skip)
local macro_rules | `(tactic| walk_at "s") => `(tactic| repeat walk_at "1")
local macro_rules | `(tactic| walk_at "size") => `(tactic| first | exact Nat.le_of_ble_eq_true rfl | (simp only [List.length_map, List.length_append, List.length_cons, List.length_nil]; omega))
local macro_rules | `(tactic| walk_at "new") => `(tactic| (first | refine ⟨(by walk_at "size"), fun p hp => ?_⟩ | refine fun p hp => ?_); (generalize hq : upd _ p _ = H1); (obtain ⟨s, e⟩ := new_facts hp hq); clear hq)

theorem ArgAt.inv {C : Addr} {H : Hp} {v : V} {es : List El} (h : ArgAt C H v (some es)) : ∃ a xs, v = .ref a ∧ SqH H a xs ∧ Els H xs es := by
  cases h with
  | seq h e => exact ⟨_, _, rfl, h, e⟩
theorem rises_good : ∀ (l : Option Int) (es : List El), risesFrom l es = true → es = (es.map (·.getD none)).map some
  | _, [], _ => rfl
  | none, none :: _, h => nomatch h
  | some _, none :: _, h => nomatch h
  | some _, some none :: _, h => nomatch h
  | none, some t :: r, h => by
    show some t :: r = some t :: (r.map (·.getD none)).map some
    rw [← rises_good t r h]
  | some l, some (some x) :: r, h => by
    by_cases c : x < l
    · have : risesFrom (some l) (some (some x) :: r) = false := if_pos c
      rw [this] at h
      cases h
    · have e : risesFrom (some l) (some (some x) :: r) = risesFrom (some x) r := if_neg c
      rw [e] at h
      show some (some x) :: r = some (some x) :: (r.map (·.getD none)).map some
      rw [← rises_good _ r h]
theorem els_good {H : Hp} : ∀ {vs : List V} (xs : List (Option Int)), Els H vs (xs.map some) → vs = xs.map ov
  | vs, [], h => by cases h; rfl
  | vs, x :: xs, h => by
    cases h with
    | cons h t =>
      rw [els_good xs t]
      cases h <;> rfl
theorem rises_some : ∀ (l : Int) (xs : List (Option Int)), risesFrom (some l) (xs.map some) = true → ∀ x ∈ xs, x ≠ none
  | _, [], _, x, h => nomatch h
  | l, none :: _, h, _, _ => nomatch h
  | l, some y :: r, h, x, hx => by
    by_cases c : y < l
    · have : risesFrom (some l) (some (some y) :: r.map some) = false := if_pos c
      have h' : risesFrom (some l) (some (some y) :: r.map some) = true := h
      rw [this] at h'
      cases h'
    · have e : risesFrom (some l) (some (some y) :: r.map some) = risesFrom (some y) (r.map some) := if_neg c
      have h' : risesFrom (some l) (some (some y) :: r.map some) = true := h
      rw [e] at h'
      rcases List.mem_cons.mp hx with rfl | hx
      · exact fun z => nomatch z
      · exact rises_some _ r h' x hx
abbrev wF : Str := "first"
abbrev wA : Str := "again"
abbrev wM : Str := "more"
/-- what things in a row tell, if they never fall -/
def riseO (es : List El) : Option (List (Option Int)) := if risesFrom none es = true then some (es.map (·.getD none)) else none
open Classical in
noncomputable def wordB (f a : List (Option Int)) (m : El) : Option Str :=
  match a.head?.join with
  | none => if a.getLast?.join ≠ none ∨ f.getLast?.join ≠ none then some wA else if m = some (some 0) then none else some wM
  | some lo => if (∃ e, f.getLast?.join = some e ∧ lo < e) then some wA else if (∃ k, m = some (some k) ∧ 0 ≤ k ∧ (a.getLast?.join).getD 0 - lo ≤ k) then none else some wM
open Classical in
/-- the name of the first wrong argument -/
noncomputable def wordA (f a : Arg) (m : El) : Option Str :=
  match f.bind riseO with
  | none => some wF
  | some f => match a.bind riseO with
    | none => some wA
    | some a => if a = [] then some wA else wordB f a m
def ovs : Option Str → V
  | none => .non
  | some s => .str s
theorem atI_neg1 {α : Type} {xs : List α} {v : α} (h : xs.getLast? = some v) : atI xs (-1) = some v := by
  obtain ⟨ys, rfl⟩ := List.getLast?_eq_some_iff.mp h
  exact atI_last ys v
theorem atI_head {α : Type} {xs : List α} {v : α} (h : xs.head? = some v) : atI xs 0 = some v := by
  cases xs with
  | nil => cases h
  | cons x r =>
    cases h
    exact atI_nat (j := 0) rfl
theorem last_map (xs : List (Option Int)) : (xs.map ov).getLast? = xs.getLast?.map ov := by simp
theorem head_map (xs : List (Option Int)) : (xs.map ov).head? = xs.head?.map ov := by simp
section
variable {P : Program} {w : World} {K : PySem.W.Frag} {mg : Str → Option Value} {base : Heap} {C : Addr}
abbrev s_wrong_argument : Stmt := topS 16
theorem sc_wrong_argument : FnScope ["first", "again", "more", "end"] ["first", "again", "more"] (defScope s_wrong_argument) := ⟨rfl, rfl, rfl, by decide +kernel, rfl, by decide +kernel, by decide +kernel⟩
def spWrong (C : Addr) : Sp := fun vs H Q _ => ∃ (v1 v2 v3 : V) (f a : Arg) (m : El), vs = [v1, v2, v3] ∧ ArgAt C H v1 f ∧ ArgAt C H v2 a ∧ ElAt H v3 m ∧ ∀ H', Same H H' → Q (ovs (wordA f a m)) H'
set_option maxHeartbeats 8000000 in
open Classical in
theorem ok_wrong (D : Df K mg "_wrong_argument" s_wrong_argument ["first", "again", "more"]) (T : Txt mg) (o_is_number : Own P w K mg base "is_number" 2 ["value"] spIsNum) (o_is_sequence : Own P w K mg base "is_sequence" 1 ["value"] (spIsSeq C))
    (o_rises : Own P w K mg base "_rises" 2 ["things"] spRises) : Own P w K mg base "_wrong_argument" 3 ["first", "again", "more"] (spWrong C) := by
  refine D.own sc_wrong_argument (fun vs H Q E h => ?_) (fun fa cdv A outer s H vs Q E hr h => ?_)
  · obtain ⟨_, _, _, _, _, _, rfl, _⟩ := h
    rfl
  · obtain ⟨v1, v2, v3, f, a, m, rfl, hF, hA, hM, k⟩ := h
    refine ⟨_, (pss_cons (ps_if (PW.pt (pw_or (pt_not (pt_val (pe_own o_is_sequence (hr.mono (by decide)) (pa_cons (pv 0) pa_nil)))) (pw_or1 (pt_not (pt_val (pe_own o_rises (hr.mono (by decide)) (pa_cons (pv 0) pa_nil)))))))
    (pss_one (ps_ret pe_str))
    pss_nil)
  (C8.pss_cut (ps_if (PW.pt (pw_or (pt_not (pt_val (pe_own o_is_sequence (hr.mono (by decide)) (pa_cons (pv 1) pa_nil)))) (pw_or (pt_cmpR op_eq (pe_callB call_len_seq (by rfl) T.len PySem.boot_len (pa_cons (pv 1) pa_nil)) pe_int (nomark _)) (pw_or1 (pt_not (pt_val (pe_own o_rises (hr.mono (by decide)) (pa_cons (pv 1) pa_nil))))))))
    (pss_one (ps_ret pe_str))
    pss_nil)
  (C8.pss_cut (ps_set (i := 3) sc_wrong_argument.nd rfl (Or.inl rfl) (pe_ifExp (pt_cmpR op_gt (pe_callB call_len_seq (by rfl) T.len PySem.boot_len (pa_cons (pv 0) pa_nil)) pe_int (nomark _)) (pe_ix ix_seq (pv 0) (pe_un un_neg pe_int) (fun _ _ => rfl)) pe_non))
  (pss_cons (ps_if (pt_cmpR op_isN (pe_ix ix_seq (pv 1) pe_int (fun _ _ => rfl)) pe_non (nomark _))
    (pss_cons (ps_if (PW.pt (pw_or (pt_cmpR op_notN (pe_ix ix_seq (pv 1) (pe_un un_neg pe_int) (fun _ _ => rfl)) pe_non (nomark _)) (pw_or1 (pt_cmpR op_notN (pv 3) pe_non (nomark _)))))
        (pss_one (ps_ret pe_str))
        pss_nil)
      (pss_one (ps_ret (pe_ifExp (PW.pt (pw_and (pt_val (pe_own o_is_number (hr.mono (by decide)) (pa_cons (pv 2) pa_nil))) (pw_and1 (pt_cmpR op_eq (pv 2) pe_int (nomark _))))) pe_non pe_str))))
    pss_nil)
  (pss_cons (ps_if (PW.pt (pw_and (pt_cmpR op_notN (pv 3) pe_non (nomark _)) (pw_and1 (pt_cmpR op_lt (pe_ix ix_seq (pv 1) pe_int (fun _ _ => rfl)) (pv 3) (nomark _)))))
    (pss_one (ps_ret pe_str))
    pss_nil)
  (pss_one (ps_ret (pe_ifExp (PW.pt (pw_and (pt_val (pe_own o_is_number (hr.mono (by decide)) (pa_cons (pv 2) pa_nil))) (pw_and1 (pt_cmpR op_ge (pv 2) (pe_op op_sub (pe_ix ix_seq (pv 1) (pe_un un_neg pe_int) (fun _ _ => rfl)) (pe_ix ix_seq (pv 1) pe_int (fun _ _ => rfl))) (nomark _))))) pe_non pe_str)))))))), ?_⟩
    refine ⟨_, rfl, ?_⟩
    refine ⟨_, _, rfl, hF, fun H1 s1 => ?_⟩
    have hF1 := hF.same s1
    have hA1 := hA.same s1
    have hM1 := hM.same s1
    cases f with
    | none =>
      walk_at "s"
      exact k _ s1
    | some fs =>
      obtain ⟨aF, xF, rfl, hSF, hEF⟩ := hF1.inv
      walk_at "s"
      refine ⟨aF, xF, fs, rfl, hSF, hEF, ?_⟩
      cases hrf : risesFrom none fs with
      | false =>
        have e : wordA (some fs) a m = some wF := by
          have : riseO fs = none := if_neg (by rw [hrf]; exact Bool.false_ne_true)
          show (match riseO fs with | none => some wF | some f => _) = _
          rw [this]
        rw [e] at k
        walk_at "s"
        exact k _ s1
      | true =>
        have egf := rises_good none fs hrf
        have eFo : riseO fs = some (fs.map (·.getD none)) := if_pos hrf
        generalize hfl : fs.map (·.getD none) = fl at egf eFo
        have eVF : xF = fl.map ov := els_good fl (egf ▸ hEF)
        subst eVF
        walk_at "s"
        refine ⟨fun σ' H' => ∃ (aA : Addr) (al : List (Option Int)), σ' = [some (.ref aF), some (.ref aA), some v3, none] ∧ v2 = .ref aA ∧ Same H H' ∧ SqH H' aF (fl.map ov) ∧ SqH H' aA (al.map ov) ∧ ElAt H' v3 m ∧ al ≠ [] ∧ risesFrom none (al.map some) = true ∧ wordA (some fs) a m = wordB fl al m, ?_, ?_⟩
        · refine ⟨_, rfl, ?_⟩
          refine ⟨_, _, rfl, hA1, fun H2 s2 => ?_⟩
          have s12 := s1.trans s2
          cases a with
          | none =>
            have e : wordA (some fs) none m = some wA := by
              show (match riseO fs with | none => some wF | some f => _) = _
              rw [eFo]
              rfl
            rw [e] at k
            walk_at "s"
            exact k _ s12
          | some as =>
            obtain ⟨aA, xA, rfl, hSA, hEA⟩ := (hA1.same s2).inv
            have hSA' := hSA.sqs (K := K)
            walk_at "s"
            have hlen := hEA.len
            by_cases hnil : as = []
            · subst hnil
              have hx : xA = [] := List.eq_nil_of_length_eq_zero hlen
              subst hx
              have e : wordA (some fs) (some []) m = some wA := by
                show (match riseO fs with | none => some wF | some f => _) = _
                rw [eFo]
                rfl
              rw [e] at k
              refine ite2 (fun _ => ?_) (fun c => (c (decide_eq_true rfl)).elim)
              walk_at "s"
              exact k _ s12
            · have hx : ¬ (xA.length : Int) = 0 := fun q => hnil (List.eq_nil_of_length_eq_zero (by omega))
              refine ite2 (fun c => (hx (V.int.inj (of_decide_eq_true c))).elim) (fun _ => ?_)
              walk_at "s"
              refine ⟨aA, xA, as, rfl, hSA, hEA, ?_⟩
              cases hra : risesFrom none as with
              | false =>
                have e : wordA (some fs) (some as) m = some wA := by
                  have : riseO as = none := if_neg (by rw [hra]; exact Bool.false_ne_true)
                  show (match riseO fs with | none => some wF | some f => match riseO as with | none => some wA | some a => _) = _
                  rw [eFo, this]
                rw [e] at k
                walk_at "s"
                exact k _ s12
              | true =>
                have ega := rises_good none as hra
                have eAo : riseO as = some (as.map (·.getD none)) := if_pos hra
                generalize hal : as.map (·.getD none) = al at ega eAo
                have eVA : xA = al.map ov := els_good al (ega ▸ hEA)
                subst eVA
                walk_at "s"
                have ne : al ≠ [] := fun z => hnil (by rw [ega, z]; rfl)
                refine ⟨aA, al, rfl, rfl, s12, s2.sqh hSF, hSA, hM1.same s2, ne, by rw [← ega]; exact hra, ?_⟩
                show (match riseO fs with | none => some wF | some f => match riseO as with | none => some wA | some a => if a = [] then some wA else wordB f a m) = _
                rw [eFo, eAo]
                exact if_neg ne
        · rintro σ' H' ⟨aA, al, rfl, rfl, s2, hF2, hA2, hM2, ne, hra, ew⟩
          rw [ew] at k
          replace k := k _ s2
          have hF3 := hF2.sqs (K := K)
          have hA3 := hA2.sqs (K := K)
          refine ⟨fun σ' H'' => σ' = [some (.ref aF), some (.ref aA), some v3, some (ov fl.getLast?.join)] ∧ H'' = H', ?_, ?_⟩
          · walk_at "s"
            cases hf : fl.getLast? with
            | none =>
              have : fl = [] := List.getLast?_eq_none_iff.mp hf
              subst this
              exact ite2 (fun c => by simp at c) (fun _ => ⟨rfl, rfl⟩)
            | some e =>
              have hm : atI (fl.map ov) (-1) = some (ov e) := atI_neg1 (by rw [last_map, hf]; rfl)
              have hp : 0 < fl.length := by
                cases fl with
                | nil => cases hf
                | cons x r => simp
              refine ite2 (fun c => ?_) (fun c => absurd (by simpa using hp) c)
              rcases hF3 with hF3 | hF3
              · walk_at "s"
                rfl
              · walk_at "s"
                rfl
          · rintro σ' H'' ⟨rfl, rfl⟩
            obtain ⟨x0, r0, rfl⟩ : ∃ x r, al = x :: r := by
              cases al with
              | nil => exact absurd rfl ne
              | cons x r => exact ⟨x, r, rfl⟩
            obtain ⟨xl, hxl⟩ : ∃ xl, (x0 :: r0).getLast? = some xl := ⟨_, List.getLast?_cons⟩
            have hm0 : atI ((x0 :: r0).map ov) 0 = some (ov x0) := atI_head rfl
            have hm1 : atI ((x0 :: r0).map ov) (-1) = some (ov xl) := atI_neg1 (by rw [last_map, hxl]; rfl)
            cases x0 with
            | none =>
              have ew2 : wordB fl (none :: r0) m = if xl ≠ none ∨ fl.getLast?.join ≠ none then some wA else if m = some (some 0) then none else some wM := by
                show (if (none :: r0).getLast?.join ≠ none ∨ fl.getLast?.join ≠ none then _ else _) = _
                rw [hxl]
                rfl
              rw [ew2] at k
              rcases hA3 with hA3 | hA3
              all_goals
                walk_at "s"
                cases xl with
                | some xl =>
                  rw [if_pos (Or.inl (fun z => nomatch z))] at k
                  walk_at "s"
                  exact k
                | none =>
                  cases hj : fl.getLast?.join with
                  | some e =>
                    rw [if_pos (Or.inr (by rw [hj]; exact fun z => nomatch z))] at k
                    walk_at "s"
                    exact k
                  | none =>
                    rw [if_neg (by rw [hj]; simp)] at k
                    walk_at "s"
                    cases hM2 with
                    | int i =>
                      by_cases c0 : 0 ≤ i
                      · rw [show isN (some (some i)) = true from decide_eq_true c0]
                        walk_at "s"
                        refine ite2 (fun c => ?_) (fun c => ?_)
                        · have c' : i = 0 := V.int.inj (of_decide_eq_true c)
                          rw [if_pos (by rw [c'])] at k
                          walk_at "s"
                          exact k
                        · rw [if_neg (fun z => c (decide_eq_true (by injection z with z; injection z with z; rw [z])))] at k
                          walk_at "s"
                          exact k
                      · rw [show isN (some (some i)) = false from decide_eq_false c0]
                        rw [if_neg (fun z => c0 (by injection z with z; injection z with z; omega))] at k
                        walk_at "s"
                        exact k
                    | non =>
                      walk_at "s"
                      exact k
                    | bl b =>
                      walk_at "s"
                      exact k
                    | str b =>
                      walk_at "s"
                      exact k
                    | seq b =>
                      walk_at "s"
                      exact k
            | some lo =>
              have hsome := rises_some lo r0 hra
              obtain ⟨hi, rfl⟩ : ∃ hi, xl = some hi := by
                have hmem := List.mem_of_getLast? hxl
                cases xl with
                | some hi => exact ⟨hi, rfl⟩
                | none =>
                  rcases List.mem_cons.mp hmem with z | z
                  · cases z
                  · exact absurd rfl (hsome none z)
              have ew2 : wordB fl (some lo :: r0) m = if (∃ e, fl.getLast?.join = some e ∧ lo < e) then some wA else if (∃ k, m = some (some k) ∧ 0 ≤ k ∧ hi - lo ≤ k) then none else some wM := by
                show (if (∃ e, fl.getLast?.join = some e ∧ lo < e) then _ else if (∃ k, m = some (some k) ∧ 0 ≤ k ∧ ((some lo :: r0).getLast?.join).getD 0 - lo ≤ k) then _ else _) = _
                rw [hxl]
                rfl
              rw [ew2] at k
              rcases hA3 with hA3 | hA3
              all_goals
                walk_at "s"
                cases hj : fl.getLast?.join with
                | some e =>
                  walk_at "s"
                  refine ite2 (fun c => ?_) (fun c => ?_)
                  · have c' : lo < e := of_decide_eq_true c
                    rw [if_pos ⟨e, hj, c'⟩] at k
                    walk_at "s"
                    exact k
                  · have n : ¬ (∃ e, fl.getLast?.join = some e ∧ lo < e) := fun ⟨e', h1, h2⟩ => by
                      rw [hj] at h1
                      injection h1 with h1
                      subst h1
                      exact c (decide_eq_true h2)
                    rw [if_neg n] at k
                    walk_at "s"
                    cases hM2 with
                    | int i =>
                      by_cases c0 : 0 ≤ i
                      · rw [show isN (some (some i)) = true from decide_eq_true c0]
                        walk_at "s"
                        refine ite2 (fun c => ?_) (fun c => ?_)
                        · rw [if_pos ⟨i, rfl, c0, of_decide_eq_true c⟩] at k
                          walk_at "s"
                          exact k
                        · rw [if_neg (fun ⟨i', h1, _, h3⟩ => c (decide_eq_true (by injection h1 with h1; injection h1 with h1; subst h1; exact h3)))] at k
                          walk_at "s"
                          exact k
                      · rw [show isN (some (some i)) = false from decide_eq_false c0]
                        rw [if_neg (fun ⟨i', h1, h2, _⟩ => c0 (by injection h1 with h1; injection h1 with h1; subst h1; exact h2))] at k
                        walk_at "s"
                        exact k
                    | non =>
                      rw [if_neg (fun ⟨i', h1, _⟩ => nomatch h1)] at k
                      walk_at "s"
                      exact k
                    | bl b =>
                      rw [if_neg (fun ⟨i', h1, _⟩ => nomatch h1)] at k
                      walk_at "s"
                      exact k
                    | str b =>
                      rw [if_neg (fun ⟨i', h1, _⟩ => nomatch h1)] at k
                      walk_at "s"
                      exact k
                    | seq b =>
                      rw [if_neg (fun ⟨i', h1, _⟩ => nomatch h1)] at k
                      walk_at "s"
                      exact k
                | none =>
                  have n : ¬ (∃ e, fl.getLast?.join = some e ∧ lo < e) := fun ⟨e', h1, h2⟩ => by
                    rw [hj] at h1
                    cases h1
                  rw [if_neg n] at k
                  walk_at "s"
                  cases hM2 with
                  | int i =>
                    by_cases c0 : 0 ≤ i
                    · rw [show isN (some (some i)) = true from decide_eq_true c0]
                      walk_at "s"
                      refine ite2 (fun c => ?_) (fun c => ?_)
                      · rw [if_pos ⟨i, rfl, c0, of_decide_eq_true c⟩] at k
                        walk_at "s"
                        exact k
                      · rw [if_neg (fun ⟨i', h1, _, h3⟩ => c (decide_eq_true (by injection h1 with h1; injection h1 with h1; subst h1; exact h3)))] at k
                        walk_at "s"
                        exact k
                    · rw [show isN (some (some i)) = false from decide_eq_false c0]
                      rw [if_neg (fun ⟨i', h1, h2, _⟩ => c0 (by injection h1 with h1; injection h1 with h1; subst h1; exact h2))] at k
                      walk_at "s"
                      exact k
                  | non =>
                    rw [if_neg (fun ⟨i', h1, _⟩ => nomatch h1)] at k
                    walk_at "s"
                    exact k
                  | bl b =>
                    rw [if_neg (fun ⟨i', h1, _⟩ => nomatch h1)] at k
                    walk_at "s"
                    exact k
                  | str b =>
                    rw [if_neg (fun ⟨i', h1, _⟩ => nomatch h1)] at k
                    walk_at "s"
                    exact k
                  | seq b =>
                    rw [if_neg (fun ⟨i', h1, _⟩ => nomatch h1)] at k
                    walk_at "s"
                    exact k
end
end My

namespace My
open PySem PySem.Spec PyProof.Rows L2
local macro_rules | `(tactic| walk_at "side") => `(tactic| first | (dsimp only; omega) | exact ⟨by omega, by omega⟩ | exact Or.inl ⟨by omega, by omega⟩ | exact Or.inr ⟨by omega, by omega⟩ | decide)
local macro_rules | `(tactic| walk_at "sq") => `(tactic| first | assumption | exact SqL.of (by assumption) | exact SqT.of (by assumption) | (refine L2.Same.seq (by assumption) ?_; walk_at "sq") | (refine L2.Same.seqT (by assumption) ?_; walk_at "sq") | exact Or.inl (by walk_at "sq") | exact Or.inr (by walk_at "sq"))
local macro_rules | `(tactic| walk_at "1") => `(tactic| first
  | refine ⟨_, rfl, iteT ?_⟩
  | refine ⟨_, rfl, iteF ?_⟩
  | refine ⟨_, rfl, ?_⟩
  | refine ⟨_, _, rfl, rfl, (by walk_at "side"), ?_⟩
  | refine ⟨_, _, rfl, rfl, ?_⟩
  | refine ⟨_, _, _, _, true, rfl, .ty _, .base (.int _), kit_ty (a := "int") (by decide +kernel), ?_⟩
  | refine ⟨_, _, _, _, false, rfl, .ty _, .base (.int _), kit_ty (a := "int") (by decide +kernel), ?_⟩
  | refine ⟨_, _, rfl, (by walk_at "sq"), ?_⟩
  | refine ⟨_, _, _, _, rfl, rfl, (by walk_at "sq"), (by first | rfl | assumption), ?_⟩
  | refine Or.inl ⟨_, _, _, _, rfl, rfl, (by walk_at "sq"), (by first | rfl | assumption), ?_⟩
  | refine Or.inr (Or.inl ⟨_, _, _, _, rfl, rfl, (by walk_at "sq"), (by first | rfl | assumption), ?_⟩)
  | refine ⟨rfl, ?_⟩
  | refine iteT ?_
  | refine iteF ?_
  | refine Or.inl ⟨_, rfl, ?_⟩)
local macro_rules | `(tactic| walk_at "s") => `(tactic| repeat walk_at "1")
local macro_rules | `(tactic| walk_at "size") => `(tactic| first | exact Nat.le_of_ble_eq_true rfl | (simp only [List.length_map, List.length_append, List.length_cons, List.length_nil]; omega))
local macro_rules | `(tactic| walk_at "new") => `(tactic| (first | refine ⟨(by walk_at "size"), fun p hp => ?_⟩ | refine fun p hp => ?_); (generalize hq : upd _ p _ = H1); (obtain ⟨s, e⟩ := new_facts hp hq); clear hq)

def later1 (m : Int) (t : Option Int) : Option Int := t.map (· + m)
theorem take_succ_map {α β : Type} {xs : List α} {i : Nat} {x : α} (f : α → β) (h : xs[i]? = some x) : (xs.take (i + 1)).map f = (xs.take i).map f ++ [f x] := by
  rw [List.take_add_one, h, List.map_append]
  rfl
theorem get_map {xs : List (Option Int)} {i : Nat} {x : V} (h : (xs.map ov)[i]? = some x) : ∃ t, xs[i]? = some t ∧ ov t = x := by simpa using h
/-! ### times as data -/
def od : Option Int → PyData
  | none => .none
  | some i => .int i
theorem dpAll_ov {K : PySem.W.Frag} {H : Hp} : ∀ xs : List (Option Int), DpAll K H (xs.map ov) (xs.map od)
  | [] => .nil
  | none :: r => .cons .non (dpAll_ov r)
  | some i :: r => .cons (.int i) (dpAll_ov r)
theorem canLay_od : ∀ xs : List (Option Int), PyData.canLayAll0 (xs.map od) = true
  | [] => rfl
  | none :: r => by
    show (true && PyData.canLayAll0 (r.map od)) = true
    rw [canLay_od r]; rfl
  | some i :: r => by
    show (true && PyData.canLayAll0 (r.map od)) = true
    rw [canLay_od r]; rfl
theorem depth_od : ∀ xs : List (Option Int), PyData.depthAll (xs.map od) = 0
  | [] => rfl
  | none :: r => by
    show max 0 (PyData.depthAll (r.map od)) = 0
    rw [depth_od r]; rfl
  | some i :: r => by
    show max 0 (PyData.depthAll (r.map od)) = 0
    rw [depth_od r]; rfl
theorem shaped_l (xs : List (Option Int)) : SeqAt.shaped (.list (xs.map od)) = true := by
  show (PyData.canLayAll0 (xs.map od) && decide (PyData.depthAll (xs.map od) + 1 ≤ 64)) = true
  rw [canLay_od, depth_od]; rfl
theorem shaped_t (xs : List (Option Int)) : SeqAt.shaped (.tuple (xs.map od)) = true := by
  show (PyData.canLayAll0 (xs.map od) && decide (PyData.depthAll (xs.map od) + 1 ≤ 64)) = true
  rw [canLay_od, depth_od]; rfl
theorem eqv_od (x y : Option Int) : PyData.eqv (od x) (od y) = decide (x = y) := by
  cases x <;> cases y
  · rfl
  · rfl
  · rfl
  · rename_i i j
    show (i == j) = decide (some i = some j)
    by_cases e : i = j
    · subst e; simp
    · rw [beq_eq_false_iff_ne.mpr e]
      exact (decide_eq_false fun q => e (Option.some.inj q)).symm
theorem eqvAll_od : ∀ xs ys : List (Option Int), PyData.eqvAll (xs.map od) (ys.map od) = decide (xs = ys)
  | [], [] => rfl
  | [], _ :: _ => rfl
  | _ :: _, [] => rfl
  | x :: xs, y :: ys => by
    show (PyData.eqv (od x) (od y) && PyData.eqvAll (xs.map od) (ys.map od)) = decide (x :: xs = y :: ys)
    rw [eqv_od, eqvAll_od xs ys]
    by_cases e : x = y
    · subst e; simp
    · rw [decide_eq_false e]
      exact (decide_eq_false fun q => e (List.cons.inj q).1).symm
theorem eqv_l (xs ys : List (Option Int)) : PyData.eqv (.list (xs.map od)) (.list (ys.map od)) = decide (xs = ys) := eqvAll_od xs ys
theorem eqv_t (xs ys : List (Option Int)) : PyData.eqv (.tuple (xs.map od)) (.tuple (ys.map od)) = decide (xs = ys) := eqvAll_od xs ys
/-- two lists of times compared -/
theorem rd_eqL {K : PySem.W.Frag} {H : Hp} {Q : VK} {p q : Addr} (xs ys : List (Option Int)) (h1 : SqL K H p (xs.map ov)) (h2 : SqL K H q (ys.map ov)) (k : Q (.bl (decide (xs = ys))) H) : rEqD K (.ref p) (.ref q) H Q :=
  ⟨_, _, .lst h1 (dpAll_ov xs), .lst h2 (dpAll_ov ys), shaped_l xs, shaped_l ys, by
    rw [show PyData.eqv (.list (xs.map od)) (.list (ys.map od)) = PyData.eqvAll (xs.map od) (ys.map od) from rfl, eqvAll_od]
    exact k⟩
theorem cut_from {xs : List V} {t : Nat} (h : t ≤ xs.length) : cutV xs (some (t : Int)) none = xs.drop t := by
  unfold cutV
  rw [HT.sIx_nat, HT.sIx_none, Nat.min_eq_left h]
  exact List.take_of_length_le (by rw [List.length_drop]; omega)
theorem cut_to {xs : List V} {t : Nat} (h : t ≤ xs.length) : cutV xs none (some (t : Int)) = xs.take t := by
  unfold cutV
  rw [HT.sIx_nat, HT.sIx_none, Nat.min_eq_left h, Nat.sub_zero]
  rfl
theorem cut_mid {xs : List V} {b t : Nat} (h : t ≤ xs.length) (hb : b ≤ t) : cutV xs (some (b : Int)) (some (t : Int)) = (xs.drop b).take (t - b) := by
  unfold cutV
  rw [HT.sIx_nat, HT.sIx_nat, Nat.min_eq_left h, Nat.min_eq_left (Nat.le_trans hb h)]
section
variable {P : Program} {w : World} {K : PySem.W.Frag} {mg : Str → Option Value} {base : Heap}
abbrev s_all_later : Stmt := topS 18
theorem sc_all_later : FnScope ["things", "lasts", "thing"] ["things", "lasts"] (defScope s_all_later) := ⟨rfl, rfl, rfl, by decide +kernel, rfl, by decide +kernel, by decide +kernel⟩
def spAllLater (K : PySem.W.Frag) : Sp := fun vs H Q _ => ∃ (a : Addr) (xs : List (Option Int)) (m : Int), vs = [.ref a, .int m] ∧ SqS K H a (xs.map ov) ∧ xs.length < sizeLine ∧ ∀ H' p, Same H H' → H p = none → H' p = some (.lst ((xs.map (later1 m)).map ov)) → Q (.ref p) H'
theorem ok_all_later (D : Df K mg "all_later" s_all_later ["things", "lasts"]) : Own P w K mg base "all_later" 1 ["things", "lasts"] (spAllLater K) := by
  refine D.own sc_all_later (fun vs H Q E h => ?_) (fun fa cdv A outer s H vs Q E hr h => ?_)
  · obtain ⟨_, _, _, rfl, _⟩ := h
    rfl
  · obtain ⟨a, xs, m, rfl, hS, hz, k⟩ := h
    refine ⟨_, (pss_one (ps_ret (pe_lc (own := [("thing", 2)]) (g := gName 2) (tt := tYes) rfl sc_all_later.nd (pi_alt (pi_list (pv 0)) (pi_tup (pv 0))) (blkOk_by (own := [("thing", 2)]) (N := ["things", "lasts", "thing"]) (sc := defScope s_all_later) (by decide +kernel)) (fun _ _ _ _ _ => (pg_name (i := 2) sc_all_later.nd rfl (Or.inl rfl))) (fun _ _ _ _ _ => pts_nil) (fun _ _ _ _ _ => (pe_ifExp (pt_cmpR op_isN (pv 2) pe_non (nomark _)) pe_non (pe_op op_add (pv 2) (pv 1))))))), ?_⟩
    refine seq_pi hS rfl fun J hJ => fun L nL => lc_seq hJ (fun i H' => Same H H' ∧ H' L = some (.lst (((xs.take i).map (later1 m)).map ov))) ⟨same_upd nL, upd_same⟩ (fun i H' q => q.1) ?_ ?_
    · rintro i x H' hi ⟨s1, e1⟩
      obtain ⟨t, ht, rfl⟩ := get_map hi
      have fin : Same H (upd H' L (.lst ((((xs.take i).map (later1 m)).map ov) ++ [ov (later1 m t)]))) ∧ (upd H' L (.lst ((((xs.take i).map (later1 m)).map ov) ++ [ov (later1 m t)]))) L = some (.lst (((xs.take (i + 1)).map (later1 m)).map ov)) := by
        refine ⟨s1.upd1 nL, ?_⟩
        rw [upd_same, take_succ_map _ ht, List.map_append]
        rfl
      have hz' : (((xs.take i).map (later1 m)).map ov).length < sizeLine := by
        rw [List.length_map, List.length_map, List.length_take]
        exact Nat.lt_of_le_of_lt (Nat.min_le_right _ _) hz
      cases t with
      | none =>
        walk_at "s"
        exact ⟨_, e1, hz', fin⟩
      | some t =>
        walk_at "s"
        exact ⟨_, e1, hz', fin⟩
    · rintro H' ⟨s1, e1⟩
      rw [show (xs.map ov).length = xs.length by simp, List.take_length] at e1
      exact k _ _ s1 nL e1
abbrev s_shortest_turn : Stmt := topS 17
theorem sc_shortest_turn : FnScope ["again", "more", "whole", "turn"] ["again", "more"] (defScope s_shortest_turn) := ⟨rfl, rfl, rfl, by decide +kernel, rfl, by decide +kernel, by decide +kernel⟩
/-- again comes again after t things -/
structure Fits (a : List (Option Int)) (m : Int) (t : Nat) : Prop where
  pos : 0 < t
  dvd : t ∣ a.length
  num : (m * t) % a.length = 0
  eq : a.drop t = (a.take (a.length - t)).map (later1 (m * t / a.length))
/-- the least one -/
structure LeastTurn (a : List (Option Int)) (m : Int) (t : Nat) : Prop where
  le : t ≤ a.length
  fits : Fits a m t
  least : ∀ t', t' < t → ¬ Fits a m t'
theorem fits_whole {a : List (Option Int)} {m : Int} (h : a ≠ []) : Fits a m a.length :=
  ⟨List.length_pos_iff.mpr h, Nat.dvd_refl _, by simp, by simp⟩
def spShortT : Sp := fun vs H Q _ => ∃ (aA : Addr) (a : List (Option Int)) (m : Int), vs = [.ref aA, .int m] ∧ SqH H aA (a.map ov) ∧ a ≠ [] ∧ a.length < 1000 ∧ 0 ≤ m ∧ m < 2 ^ 60 ∧ ∀ H' t, Same H H' → LeastTurn a m t → Q (.int (t : Int)) H'
theorem ok_shortest_turn (D : Df K mg "_shortest_turn" s_shortest_turn ["again", "more"]) (T : Txt mg) (o_all_later : Own P w K mg base "all_later" 1 ["things", "lasts"] (spAllLater K)) : Own P w K mg base "_shortest_turn" 2 ["again", "more"] spShortT := by
  refine D.own sc_shortest_turn (fun vs H Q E h => ?_) (fun fa cdv A outer s H vs Q E hr h => ?_)
  · obtain ⟨_, _, _, rfl, _⟩ := h
    rfl
  · obtain ⟨aA, a, m, rfl, hA, hne, hz, m0, m1, k⟩ := h
    refine ⟨_, (pss_cons (ps_set (i := 2) sc_shortest_turn.nd rfl (Or.inl rfl) (pe_callB call_len_seq (by rfl) T.len PySem.boot_len (pa_cons (pv 0) pa_nil)))
  (pss_cons (ps_for PassesOwn.never rfl (pi_range2 (by rfl) T.range (pa_cons pe_int (pa_cons (pv 2) pa_nil))) (pg_name (i := 3) sc_shortest_turn.nd rfl (Or.inl rfl))
    (pss_one (ps_if (PW.pt (pw_and (pt_cmpR op_eq (pe_op op_mod (pv 2) (pv 3)) pe_int (nomark _)) (pw_and1 (pt_cmpR op_eq (pe_op op_mod (pe_op op_mul (pv 1) (pv 3)) (pv 2)) pe_int (nomark _)))))
        (pss_one (ps_if (pt_cmpR (op_eqD hr.units) (pe_callTy call_list_of (by rfl) T.list (by decide +kernel) (pa_cons (pe_slice (SlR.or sl_list sl_tup) (pv 0) (po_some (pv 3)) po_none) pa_nil)) (pe_own o_all_later (hr.mono (by decide)) (pa_cons (pe_slice (SlR.or sl_list sl_tup) (pv 0) po_none (po_some (pe_op op_sub (pv 2) (pv 3)))) (pa_cons (pe_op op_fdiv (pe_op op_mul (pv 1) (pv 3)) (pv 2)) pa_nil))) (nomark _))
            (pss_one (ps_ret (pv 3)))
            pss_nil))
        pss_nil)))
  (pss_one (ps_ret (pv 2))))), ?_⟩
    have hA' : SqS K H aA (a.map ov) := hA.sqs
    have hlen : (a.map ov).length = a.length := List.length_map ..
    have hp : 0 < a.length := List.length_pos_iff.mpr hne
    walk_at "s"
    rw [hlen]
    refine ⟨1, a.length, rfl, ⟨by decide, by decide, by omega, by omega⟩, for_range (lo := 1) (n := ((a.length : Int) - 1).toNat) (fun i σ H' => ∃ y, σ = [some (.ref aA), some (.int m), some (.int (a.length : Int)), y] ∧ Same H H' ∧ ∀ t', t' < i + 1 → ¬ Fits a m t')
      ⟨_, rfl, Same.refl _, fun t' ht f => by have := f.pos; omega⟩ ?_ ?_⟩
    · rintro i σ H' hi ⟨y, rfl, s1, hno⟩
      have ei : (1 : Int) + (i : Int) = ((i + 1 : Nat) : Int) := by omega
      have hi1 : i + 1 < a.length := by omega
      rw [ei]
      have nxt : ¬ Fits a m (i + 1) → ∀ t', t' < i + 1 + 1 → ¬ Fits a m t' := fun h t' ht f => by
        by_cases e : t' = i + 1
        · rw [e] at f
          exact h f
        · exact hno t' (by omega) f
      walk_at "s"
      refine ite2 (fun c1 => ?_) (fun c1 => ?_)
      · walk_at "s"
        refine ite2 (fun c2 => ?_) (fun c2 => ?_)
        · walk_at "s"
          have hle : i + 1 ≤ (a.map ov).length := by omega
          have nw1 : ¬ (HT.sIx (a.map ov).length 0 (some ((i + 1 : Nat) : Int)) = 0 ∧ HT.sIx (a.map ov).length (a.map ov).length none = (a.map ov).length) := fun q => by
            have q1 := q.1
            rw [HT.sIx_nat] at q1
            omega
          have esub : ((a.length : Int) - ((i + 1 : Nat) : Int)) = ((a.length - (i + 1) : Nat) : Int) := by omega
          have nw2 : ¬ (HT.sIx (a.map ov).length 0 none = 0 ∧ HT.sIx (a.map ov).length (a.map ov).length (some ((a.length - (i + 1) : Nat) : Int)) = (a.map ov).length) := fun q => by
            have q1 := q.2
            rw [HT.sIx_nat] at q1
            omega
          rcases hA with hA | hA
          all_goals (
            first
              | refine Or.inl ⟨_, _, rfl, SqL.of (s1 _ _ hA), ?_⟩
              | refine Or.inr ⟨_, _, rfl, SqT.of (s1 _ _ hA), nw1, ?_⟩
            walk_at "new"
            rename_i p1 n1 H1 s2 e1
            rw [cut_from hle, ← List.map_drop] at e1
            walk_at "s"
            walk_at "new"
            rename_i p2 n2 H2 s3 e2
            walk_at "s"
            rw [esub]
            first
              | refine Or.inl ⟨_, _, rfl, SqL.of (s3 _ _ (s2 _ _ (s1 _ _ hA))), ?_⟩
              | refine Or.inr ⟨_, _, rfl, SqT.of (s3 _ _ (s2 _ _ (s1 _ _ hA))), nw2, ?_⟩
            walk_at "new"
            rename_i p3 n3 H3 s4 e3
            rw [cut_to (by omega), ← List.map_take] at e3
            walk_at "s"
            refine ⟨p3, a.take (a.length - (i + 1)), _, rfl, (by first | exact Or.inl (SqL.of e3) | exact Or.inr (SqT.of e3)), Nat.lt_of_le_of_lt (by rw [List.length_take]; omega) (small1000 (by omega : 1000 ≤ 1000)), fun H4 p4 s5 n4 e4 => ?_⟩
            refine ⟨_, _, .lst (SqL.of (s5 _ _ (s4 _ _ e2))) (dpAll_ov _), .lst (SqL.of e4) (dpAll_ov _), shaped_l _, shaped_l _, ?_⟩
            rw [eqv_l]
            have s6 : Same H H4 := s1.trans (s2.trans (s3.trans (s4.trans s5)))
            walk_at "s"
            have m1e : ((a.length : Int) % ((i + 1 : Nat) : Int)) = 0 := V.int.inj (of_decide_eq_true c1)
            have m2e : (m * ((i + 1 : Nat) : Int)) % (a.length : Int) = 0 := V.int.inj (of_decide_eq_true c2)
            refine ite2 (fun c3 => ?_) (fun c3 => ?_)
            · walk_at "s"
              exact k _ _ s6 ⟨by omega, ⟨by omega, Nat.dvd_of_mod_eq_zero (by omega), m2e, of_decide_eq_true c3⟩, fun t' ht => hno t' (by omega)⟩
            · walk_at "s"
              exact ⟨s6, nxt fun f => c3 (decide_eq_true f.eq)⟩)
        · walk_at "s"
          refine ⟨s1, nxt fun f => c2 (decide_eq_true (congrArg V.int f.num))⟩
      · walk_at "s"
        refine ⟨s1, nxt fun f => c1 (decide_eq_true (congrArg V.int ?_))⟩
        have := Nat.mod_eq_zero_of_dvd f.dvd
        omega
    · rintro σ H' ⟨y, rfl, s1, hno⟩
      walk_at "s"
      refine k _ _ s1 ⟨Nat.le_refl _, fits_whole hne, fun t' ht f => hno t' (by omega) f⟩
end
end My

namespace My
open PySem PySem.Spec PyProof.Rows L2
local macro_rules | `(tactic| walk_at "side") => `(tactic| first | (dsimp only; omega) | exact ⟨by omega, by omega⟩ | exact Or.inl ⟨by omega, by omega⟩ | exact Or.inr ⟨by omega, by omega⟩ | decide)
local macro_rules | `(tactic| walk_at "sq") => `(tactic| first | assumption | exact SqL.of (by assumption) | exact SqT.of (by assumption) | (refine L2.Same.seq (by assumption) ?_; walk_at "sq") | (refine L2.Same.seqT (by assumption) ?_; walk_at "sq") | exact Or.inl (by walk_at "sq") | exact Or.inr (by walk_at "sq"))
local macro_rules | `(tactic| walk_at "1") => `(tactic| first
  | refine ⟨_, rfl, iteT ?_⟩
  | refine ⟨_, rfl, iteF ?_⟩
  | refine ⟨_, rfl, ?_⟩
  | refine ⟨_, _, rfl, rfl, (by walk_at "side"), ?_⟩
  | refine ⟨_, _, rfl, rfl, ?_⟩
  | refine ⟨_, _, _, _, true, rfl, .ty _, .base (.int _), kit_ty (a := "int") (by decide +kernel), ?_⟩
  | refine ⟨_, _, _, _, false, rfl, .ty _, .base (.int _), kit_ty (a := "int") (by decide +kernel), ?_⟩
  | refine ⟨_, _, rfl, (by walk_at "sq"), ?_⟩
  | refine ⟨_, _, _, _, rfl, rfl, (by walk_at "sq"), (by first | rfl | assumption), ?_⟩
  | refine Or.inl ⟨_, _, _, _, rfl, rfl, (by walk_at "sq"), (by first | rfl | assumption), ?_⟩
  | refine Or.inr (Or.inl ⟨_, _, _, _, rfl, rfl, (by walk_at "sq"), (by first | rfl | assumption), ?_⟩)
  | refine ⟨rfl, ?_⟩
  | refine iteT ?_
  | refine iteF ?_
  | refine Or.inl ⟨_, rfl, ?_⟩)
local macro_rules | `(tactic| walk_at "s") => `(tactic| repeat walk_at "1")
local macro_rules | `(tactic| walk_at "size") => `(tactic| first | exact Nat.le_of_ble_eq_true rfl | (simp only [List.length_map, List.length_append, List.length_cons, List.length_nil]; omega))
local macro_rules | `(tactic| walk_at "new") => `(tactic| (first | refine ⟨(by walk_at "size"), fun p hp => ?_⟩ | refine fun p hp => ?_); (generalize hq : upd _ p _ = H1); (obtain ⟨s, e⟩ := new_facts hp hq); clear hq)

/-- the least begin from which on what stands comes again -/
structure ShortF (xs : List (Option Int)) (t : Nat) (g : Int) (b b' : Nat) : Prop where
  le : b' ≤ b
  eq : ∀ n, b' ≤ n → n < b → xs[n + t]? = (xs[n]?).map (later1 g)
  least : b' = 0 ∨ xs[b' - 1 + t]? ≠ (xs[b' - 1]?).map (later1 g)
section
variable {P : Program} {w : World} {K : PySem.W.Frag} {mg : Str → Option Value} {base : Heap}
abbrev s_shortest_first : Stmt := topS 19
theorem sc_shortest_first : FnScope ["things", "begin", "turn", "grow"] ["things", "begin", "turn", "grow"] (defScope s_shortest_first) := ⟨rfl, rfl, rfl, by decide +kernel, rfl, by decide +kernel, by decide +kernel⟩
def spShortF : Sp := fun vs H Q _ => ∃ (aT : Addr) (xs : List (Option Int)) (b t : Nat) (g : Int), vs = [.ref aT, .int b, .int t, .int g] ∧ H aT = some (.lst (xs.map ov)) ∧ 0 < t ∧ b + t ≤ xs.length ∧ ∀ H' b', Same H H' → ShortF xs t g b b' → Q (.int (b' : Nat)) H'
theorem ok_shortest_first (D : Df K mg "_shortest_first" s_shortest_first ["things", "begin", "turn", "grow"]) (o_all_later : Own P w K mg base "all_later" 1 ["things", "lasts"] (spAllLater K)) : Own P w K mg base "_shortest_first" 2 ["things", "begin", "turn", "grow"] spShortF := by
  refine D.own sc_shortest_first (fun vs H Q E h => ?_) (fun fa cdv A outer s H vs Q E hr h => ?_)
  · obtain ⟨_, _, _, _, _, rfl, _⟩ := h
    rfl
  · obtain ⟨aT, xs, b, t, g, rfl, hT, ht, hbt, k⟩ := h
    refine ⟨_, (pss_cons (ps_while PassesOwn.never (PW.pt (pw_and (pt_cmpR op_gt (pv 1) pe_int (nomark _)) (pw_and1 (pt_cmpR (op_eqD hr.units) (pe_lst (pa_cons (pe_ix ix_list (pv 0) (pe_op op_add (pe_op op_sub (pv 1) pe_int) (pv 2)) (fun _ _ => rfl)) pa_nil)) (pe_own o_all_later (hr.mono (by decide)) (pa_cons (pe_lst (pa_cons (pe_ix ix_list (pv 0) (pe_op op_sub (pv 1) pe_int) (fun _ _ => rfl)) pa_nil)) (pa_cons (pv 3) pa_nil))) (nomark _)))))
    (pss_one (ps_aug (i := 1) sc_shortest_first.nd rfl (Or.inl rfl) pe_int ip_sub)))
  (pss_one (ps_ret (pv 1)))), ?_⟩
    refine ⟨fun m σ H' => m ≤ b ∧ σ = [some (.ref aT), some (.int (m : Nat)), some (.int (t : Nat)), some (.int g)] ∧ Same H H' ∧ ∀ n, m ≤ n → n < b → xs[n + t]? = (xs[n]?).map (later1 g),
      ⟨b, Nat.le_refl _, rfl, Same.refl _, fun n h1 h2 => absurd h1 (by omega)⟩, ?_⟩
    rintro m σ H' ⟨hm, rfl, s1, he⟩
    cases m with
    | zero =>
      walk_at "s"
      exact k _ _ s1 ⟨Nat.zero_le _, he, Or.inl rfl⟩
    | succ m =>
      walk_at "s"
      have hp : decide ((0 : Int) < ((m + 1 : Nat) : Int)) = true := decide_eq_true (by omega)
      rw [hp]
      walk_at "s"
      have l1 : m + t < xs.length := by omega
      have l2 : m < xs.length := by omega
      have g1 : (xs.map ov)[m + t]? = some (ov xs[m + t]) := by rw [List.getElem?_map, List.getElem?_eq_getElem l1]; rfl
      have g2 : (xs.map ov)[m]? = some (ov xs[m]) := by rw [List.getElem?_map, List.getElem?_eq_getElem l2]; rfl
      refine ⟨_, _, _, _, rfl, rfl, SqL.of (s1 _ _ hT), at_of (by omega) g1, ?_⟩
      walk_at "s"
      walk_at "new"
      rename_i p1 n1 H1 s2 e1
      walk_at "s"
      refine ⟨_, _, _, _, rfl, rfl, SqL.of (s2 _ _ (s1 _ _ hT)), at_of (by omega) g2, ?_⟩
      walk_at "s"
      walk_at "new"
      rename_i p2 n2 H2 s3 e2
      walk_at "s"
      refine ⟨p2, [xs[m]], g, rfl, Or.inl (SqL.of e2), by exact Nat.lt_of_lt_of_le (by decide : 1 < 1000) (Nat.le_of_lt (small1000 (Nat.le_refl _))), fun H3 p3 s4 n4 e3 => ?_⟩
      refine ⟨_, _, .lst (xs := [xs[m + t]].map ov) (SqL.of (s4 _ _ (s3 _ _ e1))) (dpAll_ov [xs[m + t]]), .lst (SqL.of e3) (dpAll_ov _), shaped_l _, shaped_l _, ?_⟩
      rw [eqv_l]
      walk_at "s"
      have s5 : Same H H3 := s1.trans (s2.trans (s3.trans s4))
      have hx : xs[m + t]? = some xs[m + t] := List.getElem?_eq_getElem l1
      have hy : xs[m]? = some xs[m] := List.getElem?_eq_getElem l2
      refine ite2 (fun c => ?_) (fun c => ?_)
      · have c' := of_decide_eq_true c
        have c2 : xs[m + t] = later1 g xs[m] := by simpa using c'
        refine ⟨fun σ' H'' => σ' = [some (.ref aT), some (.int (m : Nat)), some (.int (t : Nat)), some (.int g)] ∧ H'' = H3, ?_, ?_⟩
        · rintro σ' H'' ⟨rfl, rfl⟩
          refine ⟨m, by omega, by omega, rfl, s5, fun n h1 h2 => ?_⟩
          by_cases e : n = m
          · rw [e, hx, hy, c2]; rfl
          · exact he n (by omega) h2
        · walk_at "s"
          refine ⟨?_, rfl⟩
          show [some (V.ref aT), some (V.int (((m + 1 : Nat) : Int) - 1)), some (V.int (t : Nat)), some (V.int g)] = _
          rw [show ((m + 1 : Nat) : Int) - 1 = (m : Int) by omega]
      · have c2 : ¬ xs[m + t] = later1 g xs[m] := fun q => c (decide_eq_true (by rw [q]; rfl))
        walk_at "s"
        refine k _ _ s5 ⟨hm, he, Or.inr ?_⟩
        show xs[m + t]? ≠ (xs[m]?).map (later1 g)
        rw [hx, hy]
        exact fun q => c2 (Option.some.inj q)
end
end My

namespace My
open PySem PySem.Spec PyProof.Rows L2
local macro_rules | `(tactic| walk_at "wp_side") => `(tactic| first | (dsimp only; omega) | exact ⟨by omega, by omega⟩ | exact Or.inl ⟨by omega, by omega⟩ | exact Or.inr ⟨by omega, by omega⟩ | decide)
local macro_rules | `(tactic| walk_at "wp1") => `(tactic| first
  | refine ⟨_, rfl, ?_⟩
  | refine ⟨_, _, rfl, rfl, (by walk_at "wp_side"), ?_⟩
  | refine ⟨_, _, rfl, rfl, ?_⟩
  | refine ⟨_, _, _, _, rfl, rfl, SqL.of (by first | assumption | exact upd_same), rfl, ?_⟩
  | refine ⟨_, _, _, _, rfl, rfl, (by first | assumption | exact upd_same), rfl, ?_⟩
  | refine ⟨_, _, rfl, Or.inl (by assumption), ?_⟩
  | refine Or.inl ⟨_, rfl, ?_⟩)
local macro_rules | `(tactic| walk_at "wps") => `(tactic| repeat walk_at "wp1")
local macro_rules | `(tactic| walk_at "side") => `(tactic| first | (dsimp only; omega) | exact ⟨by omega, by omega⟩ | exact Or.inl ⟨by omega, by omega⟩ | exact Or.inr ⟨by omega, by omega⟩ | decide)
local macro_rules | `(tactic| walk_at "sq") => `(tactic| first | assumption | exact SqL.of (by assumption) | exact SqT.of (by assumption) | (refine L2.Same.seq (by assumption) ?_; walk_at "sq") | (refine L2.Same.seqT (by assumption) ?_; walk_at "sq") | exact Or.inl (by walk_at "sq") | exact Or.inr (by walk_at "sq"))
local macro_rules | `(tactic| walk_at "1") => `(tactic| first
  | refine ⟨_, rfl, iteT ?_⟩
  | refine ⟨_, rfl, iteF ?_⟩
  | refine ⟨_, rfl, ?_⟩
  | refine ⟨_, _, rfl, rfl, (by walk_at "side"), ?_⟩
  | refine ⟨_, _, rfl, rfl, ?_⟩
  | refine ⟨_, _, _, _, true, rfl, .ty _, .base (.int _), kit_ty (a := "int") (by decide +kernel), ?_⟩
  | refine ⟨_, _, _, _, false, rfl, .ty _, .base (.int _), kit_ty (a := "int") (by decide +kernel), ?_⟩
  | refine ⟨_, _, rfl, (by walk_at "sq"), ?_⟩
  | refine ⟨_, _, _, _, rfl, rfl, (by walk_at "sq"), (by first | rfl | assumption), ?_⟩
  | refine Or.inl ⟨_, _, _, _, rfl, rfl, (by walk_at "sq"), (by first | rfl | assumption), ?_⟩
  | refine Or.inr (Or.inl ⟨_, _, _, _, rfl, rfl, (by walk_at "sq"), (by first | rfl | assumption), ?_⟩)
  | refine ⟨_, _, rfl, Or.inl ⟨(by walk_at "sq"), ?_⟩⟩
  | refine ⟨rfl, ?_⟩
  | refine iteT ?_
  | refine iteF ?_
  | refine ⟨_, _, _, _, _, rfl, (by assumption), (by assumption), (by assumption), (by assumption), ?_⟩
  | refine Or.inl ⟨_, rfl, ?_⟩
  | refine ⟨_, _, rfl, (by walk_at "side"), ?_⟩
  | refine ⟨_, _, rfl, ?_⟩)
local macro_rules | `(tactic| walk_at "fld") => `(tactic| skip)
local macro_rules | `(tactic| walk_at "s") => `(tactic| repeat walk_at "1")
local macro_rules | `(tactic| walk_at "size") => `(tactic| first | exact Nat.le_of_ble_eq_true rfl | (simp only [List.length_map, List.length_append, List.length_cons, List.length_nil]; omega))
local macro_rules | `(tactic| walk_at "new") => `(tactic| (first | refine ⟨(by walk_at "size"), fun p hp => ?_⟩ | refine fun p hp => ?_); (generalize hq : upd _ p _ = H1); (obtain ⟨s, e⟩ := new_facts hp hq); clear hq)

theorem upd_facts {H H1 : Hp} {p : Addr} {o : HO} (hq : upd H p o = H1) : H1 p = some o ∧ ∀ b, b ≠ p → H1 b = H b := by
  subst hq
  exact ⟨upd_same, fun b h => upd_ne h⟩

/-- a box of draws -/
def BoxAt (H : Hp) (b : Addr) : Prop := ∃ x y z : Int, 0 ≤ x ∧ H b = some (.lst [.int x, .int y, .int z])
/-- all but the box stands -/
def Bx (b : Addr) (H H' : Hp) : Prop := ∀ c o, c ≠ b → H c = some o → H' c = some o
theorem Bx.of {b : Addr} {H H' : Hp} (s : Same H H') : Bx b H H' := fun c o _ e => s c o e
theorem Bx.trans {b : Addr} {H H1 H2 : Hp} (s : Bx b H H1) (t : Bx b H1 H2) : Bx b H H2 := fun c o n e => t c o n (s c o n e)
theorem Bx.upd {b : Addr} {H : Hp} {o : HO} : Bx b H (upd H b o) := fun c x n e => by
  rw [upd_ne n]
  exact e
theorem Bx.same {b : Addr} {H0 H H' : Hp} (s : Bx b H H') (h : Same H0 H) (n : H0 b = none) : Same H0 H' := fun c o e => s c o (ne_of_none e n) (h c o e)
theorem BoxAt.same {b : Addr} {H H' : Hp} (h : BoxAt H b) (s : Same H H') : BoxAt H' b := by
  obtain ⟨x, y, z, h0, h1⟩ := h
  exact ⟨x, y, z, h0, s _ _ h1⟩
theorem BoxAt.ne {b p : Addr} {H : Hp} (h : BoxAt H b) (n : H p = none) : p ≠ b := by
  obtain ⟨x, y, z, h0, h1⟩ := h
  exact (ne_of_none h1 n).symm
def spTake : Sp := fun vs H Q _ => ∃ (b : Addr) (m : Nat), vs = [.ref b, .int m] ∧ 0 < m ∧ m < 1073741824 ∧ BoxAt H b ∧ ∀ (H' : Hp) (n : Nat), n < m → Bx b H H' → BoxAt H' b → Q (.int n) H'
def spBox (K : PySem.W.Frag) : Sp := fun vs H Q _ => ∃ (a : Addr) (ns : List Int) (k : Nat), vs = [.ref a, .int k] ∧ SqL K H a (ns.map V.int) ∧ ns.length ≤ 63 ∧
  ∀ (H' : Hp) (p : Addr), Same H H' → H p = none → BoxAt H' p → Q (.ref p) H'
section
variable {P : Program} {w : World} {K : PySem.W.Frag} {mg : Str → Option Value} {base : Heap} {C : Addr}
abbrev s_law_take : Stmt := topS 26
theorem sc_law_take : FnScope ["box", "many", "digit", "one"] ["box", "many"] (defScope s_law_take) := ⟨rfl, rfl, rfl, by decide +kernel, rfl, by decide +kernel, by decide +kernel⟩
theorem ok_take (D : Df K mg "_law_take" s_law_take ["box", "many"]) (T : Txt mg) : Own P w K mg base "_law_take" 1 ["box", "many"] spTake := by
  refine D.own sc_law_take (fun vs H Q E h => ?_) (fun fa cdv A outer s H vs Q E hr h => ?_)
  · obtain ⟨_, _, rfl, _⟩ := h
    rfl
  · obtain ⟨b, m, rfl, m0, m1, ⟨x, y, z, x0, hb⟩, k⟩ := h
    have h8 : (0:Int) < 8191 ∧ (8191:Int) < 1073741824 := by decide
    have fin : ∀ (i x' y' z' : Int), 0 ≤ i → i < m → 0 ≤ x' → Q (.int i) (upd H b (.lst [.int x', .int y', .int z'])) := fun i x' y' z' i0 i1 hx => by
      have := k (upd H b (.lst [.int x', .int y', .int z'])) i.toNat (by omega) Bx.upd ⟨x', y', z', hx, upd_same⟩
      rw [show ((i.toNat : Nat) : Int) = i by omega] at this
      exact this
    refine ⟨_, (pss_cons (ps_if (pt_cmpR op_gt (pe_ix ix_list (pv 0) pe_int (fun _ _ => rfl)) pe_int (nomark _))
    (pss_cons (ps_set (i := 2) sc_law_take.nd rfl (Or.inl rfl) (pe_op op_mod (pe_callTy call_int1 (by rfl) T.int (by decide +kernel) (pa_cons (pe_ix ix_list (pv 0) pe_int (fun _ _ => rfl)) pa_nil)) (pv 1)))
      (pss_cons (ps_asg (pe_op op_fdiv (pe_ix ix_list (pv 0) pe_int (fun _ _ => rfl)) (pv 1)) (pg_sub (pv 0) pe_int set_list))
      (pss_one (ps_ret (pv 2)))))
    pss_nil)
  (pss_cons (ps_asg (pe_op op_add (pe_ix ix_list (pv 0) pe_int (fun _ _ => rfl)) pe_int) (pg_sub (pv 0) pe_int set_list))
  (pss_cons (ps_set (i := 3) sc_law_take.nd rfl (Or.inl rfl) (pe_op op_mod (pe_callTy call_int1 (by rfl) T.int (by decide +kernel) (pa_cons (pe_op op_mul (pe_op op_add (pe_ix ix_list (pv 0) pe_int (fun _ _ => rfl)) (pe_op op_mul pe_int (pe_ix ix_list (pv 0) pe_int (fun _ _ => rfl)))) pe_int) pa_nil)) pe_int))
  (pss_cons (ps_asg (pe_op op_add (pe_op op_mod (pe_callTy call_int1 (by rfl) T.int (by decide +kernel) (pa_cons (pe_op op_add (pe_op op_mul (pv 3) pe_int) pe_int) pa_nil)) pe_int) pe_int) (pg_sub (pv 0) pe_int set_list))
  (pss_one (ps_ret (pe_op op_mod (pe_callTy call_int1 (by rfl) T.int (by decide +kernel) (pa_cons (pe_op op_fdiv (pe_op op_add (pe_op op_mul (pv 3) pe_int) (pe_ix ix_list (pv 0) pe_int (fun _ _ => rfl))) pe_int) pa_nil)) (pv 1)))))))), ?_⟩
    walk_at "wps"
    refine ite2 (fun c => ?_) (fun c => ?_)
    · have c' : 0 < x := by simpa using c
      walk_at "wps"
      exact fin _ _ _ _ (Int.emod_nonneg _ (by omega)) (Int.emod_lt_of_pos _ (by omega)) (Int.ediv_nonneg x0 (by omega))
    · walk_at "wps"
      rw [upd_upd]
      exact fin _ _ _ _ (Int.emod_nonneg _ (by omega)) (Int.emod_lt_of_pos _ (by omega)) x0
abbrev s_law_box : Stmt := topS 25
theorem sc_law_box : FnScope ["script", "k", "cell", "seed"] ["script", "k"] (defScope s_law_box) := ⟨rfl, rfl, rfl, by decide +kernel, rfl, by decide +kernel, by decide +kernel⟩
theorem ok_box (D : Df K mg "_law_box" s_law_box ["script", "k"]) (T : Txt mg) : Own P w K mg base "_law_box" 1 ["script", "k"] (spBox K) := by
  refine D.own sc_law_box (fun vs H Q E h => ?_) (fun fa cdv A outer s H vs Q E hr h => ?_)
  · obtain ⟨_, _, _, rfl, _⟩ := h
    rfl
  · obtain ⟨a, ns, k, rfl, hS, hlen, kk⟩ := h
    refine ⟨_, (pss_cons (ps_set (i := 2) sc_law_box.nd rfl (Or.inl rfl) (pe_op op_add (pe_op op_mul pe_int (pv 1)) pe_int))
  (C8.pss_cut (ps_if (pt_cmpR op_lt (pv 1) (pe_callB call_len_seq (by rfl) T.len PySem.boot_len (pa_cons (pv 0) pa_nil)) (nomark _))
    (pss_one (ps_set (i := 2) sc_law_box.nd rfl (Or.inl rfl) (pe_callB call_abs (by rfl) T.abs (by decide +kernel) (pa_cons (pe_ix ix_list (pv 0) (pv 1) (fun _ _ => rfl)) pa_nil))))
    (pss_one (ps_if (pt_cmpR op_gt (pe_callB call_len_seq (by rfl) T.len PySem.boot_len (pa_cons (pv 0) pa_nil)) pe_int (nomark _))
        (pss_one (ps_set (i := 2) sc_law_box.nd rfl (Or.inl rfl) (pe_op op_add (pv 2) (pe_op op_mul (pe_op op_mod (pe_callTy call_int1 (by rfl) T.int (by decide +kernel) (pa_cons (pe_callB call_abs (by rfl) T.abs (by decide +kernel) (pa_cons (pe_callTy call_int1 (by rfl) T.int (by decide +kernel) (pa_cons (pe_ix ix_list (pv 0) (pe_op op_mod (pe_callTy call_int1 (by rfl) T.int (by decide +kernel) (pa_cons (pv 1) pa_nil)) (pe_callB call_len_seq (by rfl) T.len PySem.boot_len (pa_cons (pv 0) pa_nil))) (fun _ _ => rfl)) pa_nil)) pa_nil)) pa_nil)) pe_int) pe_int))))
        pss_nil)))
  (pss_cons (ps_set (i := 3) sc_law_box.nd rfl (Or.inl rfl) (pe_op op_add (pe_op op_mod (pe_callTy call_int1 (by rfl) T.int (by decide +kernel) (pa_cons (pe_op op_add (pe_op op_mul (pe_op op_mod (pe_callTy call_int1 (by rfl) T.int (by decide +kernel) (pa_cons (pv 2) pa_nil)) pe_int) pe_int) (pe_op op_mul pe_int (pv 1))) pa_nil)) pe_int) pe_int))
  (pss_one (ps_ret (pe_lst (pa_cons (pe_ix ix_list (pe_lst (pa_cons pe_int (pa_cons (pv 2) pa_nil))) (pe_callTy call_int1 (by rfl) T.int (by decide +kernel) (pa_cons (pe_cmpR op_ge (pv 2) (pe_op op_pow pe_int pe_int) (nomark _)) pa_nil)) (fun _ _ => rfl)) (pa_cons (pv 3) (pa_cons pe_int pa_nil))))))))), ?_⟩
    walk_at "wps"
    refine ⟨fun σ' H' => (∃ c : Int, σ' = [some (.ref a), some (.int (k : Int)), some (.int c), none]) ∧ H' = H, ?_, ?_⟩
    · walk_at "wps"
      have hl : ((ns.map V.int).length : Int) = (ns.length : Int) := by rw [List.length_map]
      refine ite2 (fun c => ?_) (fun c => ?_)
      · have c' : k < ns.length := by
          have c2 : (k : Int) < ((ns.map V.int).length : Int) := by simpa using c
          omega
        walk_at "wps"
        refine ⟨_, _, _, _, rfl, rfl, hS, atI_nat (List.getElem?_eq_getElem (by rw [List.length_map]; exact c')), ?_⟩
        rw [List.getElem_map]
        walk_at "wps"
        exact ⟨⟨_, rfl⟩, rfl⟩
      · walk_at "wps"
        refine ite2 (fun d => ?_) (fun d => ?_)
        · have d' : 0 < ns.length := by
            have d2 : (0 : Int) < ((ns.map V.int).length : Int) := by simpa using d
            omega
          have hm : (k : Int) % ((ns.map V.int).length : Int) = ((k % ns.length : Nat) : Int) := by rw [hl]; simp
          have lt : k % ns.length < (ns.map V.int).length := by rw [List.length_map]; exact Nat.mod_lt _ d'
          walk_at "wps"
          refine ⟨_, _, _, _, rfl, rfl, hS, at_of hm (List.getElem?_eq_getElem lt), ?_⟩
          rw [List.getElem_map]
          walk_at "wps"
          exact ⟨⟨_, rfl⟩, rfl⟩
        · exact ⟨⟨_, rfl⟩, rfl⟩
    · rintro σ' H' ⟨⟨c, rfl⟩, rfl⟩
      walk_at "wps"
      refine ⟨Nat.le_of_ble_eq_true rfl, fun q hq => ?_⟩
      walk_at "wps"
      refine Or.inr ⟨_, rfl, ?_⟩
      have s1 : Same H' (upd H' q (.lst [.int 0, .int c])) := fun b o e => by
        rw [upd_ne (ne_of_none e hq)]
        exact e
      have fin : ∀ x : Int, 0 ≤ x → ∀ y : Int, ∀ p : Addr, upd H' q (.lst [.int 0, .int c]) p = none → Q (.ref p) (upd (upd H' q (.lst [.int 0, .int c])) p (.lst [.int x, .int y, .int 0])) := fun x x0 y p hp =>
        kk _ p (s1.trans fun b o e => by rw [upd_ne (ne_of_none e hp)]; exact e) (s1.free hp) ⟨x, y, 0, x0, upd_same⟩
      by_cases big : (10 : Int) ^ (18 : Int).toNat ≤ c
      · rw [decide_eq_true big]
        refine ⟨_, _, _, _, rfl, rfl, SqL.of upd_same, rfl, ?_⟩
        walk_at "wps"
        exact ⟨Nat.le_of_ble_eq_true rfl, fun p hp => fin c (Int.le_trans (by decide) big) _ p hp⟩
      · rw [decide_eq_false big]
        refine ⟨_, _, _, _, rfl, rfl, SqL.of upd_same, rfl, ?_⟩
        walk_at "wps"
        exact ⟨Nat.le_of_ble_eq_true rfl, fun p hp => fin 0 (Int.le_refl _) _ p hp⟩
abbrev s_law_pick : Stmt := topS 27
theorem sc_law_pick : FnScope ["box", "some"] ["box", "some"] (defScope s_law_pick) := ⟨rfl, rfl, rfl, by decide +kernel, rfl, by decide +kernel, by decide +kernel⟩
def spPick : Sp := fun vs H Q _ => ∃ (b a : Addr) (xs : List V), vs = [.ref b, .ref a] ∧ BoxAt H b ∧ a ≠ b ∧ H a = some (.lst xs) ∧ 0 < xs.length ∧ xs.length < 1000 ∧ ∀ (H' : Hp) (x : V), x ∈ xs → Bx b H H' → BoxAt H' b → Q x H'
theorem ok_pick (D : Df K mg "_law_pick" s_law_pick ["box", "some"]) (T : Txt mg) (o_law_take : Own P w K mg base "_law_take" 1 ["box", "many"] spTake) : Own P w K mg base "_law_pick" 2 ["box", "some"] spPick := by
  refine D.own sc_law_pick (fun vs H Q E h => ?_) (fun fa cdv A outer s H vs Q E hr h => ?_)
  · obtain ⟨_, _, _, rfl, _⟩ := h
    rfl
  · obtain ⟨b, a, xs, rfl, hb, nab, ha, l0, l1, k⟩ := h
    refine ⟨_, (pss_one (ps_ret (pe_ix ix_list (pv 1) (pe_own o_law_take (hr.mono (by decide)) (pa_cons (pv 0) (pa_cons (pe_callB call_len_seq (by rfl) T.len PySem.boot_len (pa_cons (pv 1) pa_nil)) pa_nil))) (fun _ _ => rfl)))), ?_⟩
    walk_at "s"
    refine ⟨by omega, hb, fun H1 n hn s1 b1 => ?_⟩
    have ha1 := s1 _ _ nab ha
    have hx : xs[n]? = some xs[n] := List.getElem?_eq_getElem hn
    refine ⟨_, _, _, _, rfl, rfl, SqL.of ha1, atI_nat hx, ?_⟩
    exact k _ _ (List.getElem_mem hn) s1 b1
end
end My

namespace My
open PySem PySem.Spec PyProof.Rows L2
local macro_rules | `(tactic| walk_at "side") => `(tactic| first | (dsimp only; omega) | exact ⟨by omega, by omega⟩ | exact Or.inl ⟨by omega, by omega⟩ | exact Or.inr ⟨by omega, by omega⟩ | decide)
local macro_rules | `(tactic| walk_at "sq") => `(tactic| first | assumption | exact SqL.of (by assumption) | exact SqT.of (by assumption) | (refine L2.Same.seq (by assumption) ?_; walk_at "sq") | (refine L2.Same.seqT (by assumption) ?_; walk_at "sq") | exact Or.inl (by walk_at "sq") | exact Or.inr (by walk_at "sq"))
local macro_rules | `(tactic| walk_at "1") => `(tactic| first
  | refine ⟨_, rfl, iteT ?_⟩
  | refine ⟨_, rfl, iteF ?_⟩
  | refine ⟨_, rfl, ?_⟩
  | refine ⟨_, _, rfl, rfl, (by walk_at "side"), ?_⟩
  | refine ⟨_, _, rfl, rfl, ?_⟩
  | refine ⟨_, _, _, _, true, rfl, .ty _, .base (.int _), kit_ty (a := "int") (by decide +kernel), ?_⟩
  | refine ⟨_, _, _, _, false, rfl, .ty _, .base (.int _), kit_ty (a := "int") (by decide +kernel), ?_⟩
  | refine ⟨_, _, rfl, (by walk_at "sq"), ?_⟩
  | refine ⟨_, _, _, _, rfl, rfl, (by walk_at "sq"), (by first | rfl | assumption), ?_⟩
  | refine Or.inl ⟨_, _, _, _, rfl, rfl, (by walk_at "sq"), (by first | rfl | assumption), ?_⟩
  | refine Or.inr (Or.inl ⟨_, _, _, _, rfl, rfl, (by walk_at "sq"), (by first | rfl | assumption), ?_⟩)
  | refine ⟨_, _, rfl, Or.inl ⟨(by walk_at "sq"), ?_⟩⟩
  | refine ⟨rfl, ?_⟩
  | refine iteT ?_
  | refine iteF ?_
  | refine ⟨_, _, _, _, _, rfl, (by assumption), (by assumption), (by assumption), (by assumption), ?_⟩
  | refine Or.inl ⟨_, rfl, ?_⟩
  | refine Or.inr ⟨_, rfl, ?_⟩
  | refine ⟨_, _, rfl, (by walk_at "side"), ?_⟩
  | refine ⟨_, _, rfl, ?_⟩)
local macro_rules | `(tactic| walk_at "fld") => `(tactic| skip)
local macro_rules | `(tactic| walk_at "s") => `(tactic| repeat walk_at "1")
local macro_rules | `(tactic| walk_at "size") => `(tactic| first | exact Nat.le_of_ble_eq_true rfl | (simp only [List.length_map, List.length_append, List.length_cons, List.length_nil]; omega))
local macro_rules | `(tactic| walk_at "new") => `(tactic| (first | refine ⟨(by walk_at "size"), fun p hp => ?_⟩ | refine fun p hp => ?_); (generalize hq : upd _ p _ = H1); (obtain ⟨s, e⟩ := new_facts hp hq); clear hq)

/-- rising, within bounds -/
structure Up (lo : Int) (L : List Int) (h : Int) : Prop where
  asc : L.Pairwise (· ≤ ·)
  bd : ∀ x ∈ L, lo ≤ x ∧ x ≤ h
theorem Up.app {lo h h' : Int} {L : List Int} (u : Up lo L h) (h0 : lo ≤ h) (h1 : h ≤ h') : Up lo (L ++ [h]) h' := by
  refine ⟨List.pairwise_append.mpr ⟨u.asc, List.pairwise_singleton _ _, fun x hx y hy => ?_⟩, fun x hx => ?_⟩
  · rw [List.mem_singleton.mp hy]
    exact (u.bd x hx).2
  · rcases List.mem_append.mp hx with q | q
    · have := u.bd x q
      exact ⟨this.1, by omega⟩
    · rw [List.mem_singleton.mp q]
      exact ⟨h0, h1⟩
/-- what a drawn row is -/
structure Shape (f a : List (Option Int)) (m : Int) : Prop where
  ex : ∃ (nn : Nat) (fl al : List Int) (lo hi : Int), f = List.replicate nn none ++ fl.map some ∧ a = al.map some ∧ (fl ++ al).Pairwise (· ≤ ·) ∧ al.head? = some lo ∧ al.getLast? = some hi ∧ hi - lo ≤ m ∧ m ≤ hi - lo + 4 ∧ nn ≤ 2 ∧ fl.length ≤ 3 ∧ al.length ≤ 3 ∧ (∀ x ∈ fl ++ al, -4 ≤ x ∧ x ≤ 40)
def ToldB (b : Addr) (H : Hp) (p : Addr) (f a : List (Option Int)) (m : Int) : Prop := ∃ pf pa, p ≠ b ∧ pf ≠ b ∧ pa ≠ b ∧ H p = some (.tup [.ref pf, .ref pa, .int m]) ∧ H pf = some (.lst (f.map ov)) ∧ H pa = some (.lst (a.map ov))
theorem ToldB.bx {b : Addr} {H H' : Hp} {p : Addr} {f a : List (Option Int)} {m : Int} (h : ToldB b H p f a m) (s : Bx b H H') : ToldB b H' p f a m := by
  obtain ⟨pf, pa, n1, n2, n3, h1, h2, h3⟩ := h
  exact ⟨pf, pa, n1, n2, n3, s _ _ n1 h1, s _ _ n2 h2, s _ _ n3 h3⟩
theorem ov_some (L : List Int) : L.map V.int = (L.map some).map ov := by
  rw [List.map_map]
  rfl
section
variable {P : Program} {w : World} {K : PySem.W.Frag} {mg : Str → Option Value} {base : Heap} {C : Addr}
abbrev s_law_row : Stmt := topS 29
theorem sc_law_row : FnScope ["box", "is_low", "here", "first", "turn", "again"] ["box", "is_low"] (defScope s_law_row) := ⟨rfl, rfl, rfl, by decide +kernel, rfl, by decide +kernel, by decide +kernel⟩
def spRow : Sp := fun vs H Q _ => ∃ (b : Addr) (low : Bool), vs = [.ref b, .bl low] ∧ BoxAt H b ∧ ∀ H' p f a m, Bx b H H' → BoxAt H' b → H p = none → ToldB b H' p f a m → Shape f a m → Q (.ref p) H'
theorem ok_law_row (D : Df K mg "_law_row" s_law_row ["box", "is_low"]) (T : Txt mg) (o_law_take : Own P w K mg base "_law_take" 1 ["box", "many"] spTake) (o_law_pick : Own P w K mg base "_law_pick" 2 ["box", "some"] spPick) : Own P w K mg base "_law_row" 3 ["box", "is_low"] spRow := by
  refine D.own sc_law_row (fun vs H Q E h => ?_) (fun fa cdv A outer s H vs Q E hr h => ?_)
  · obtain ⟨_, _, rfl, _⟩ := h
    rfl
  · obtain ⟨b, low, rfl, hb, k⟩ := h
    have h1000 : 1000 < sizeLine := small1000 (Nat.le_refl _)
    refine ⟨_, (pss_cons (ps_set (i := 2) sc_law_row.nd rfl (Or.inl rfl) (pe_op op_sub (pe_own o_law_take (hr.mono (by decide)) (pa_cons (pv 0) (pa_cons pe_int pa_nil))) (pe_op op_mul pe_int (pe_callTy call_int1 (by rfl) T.int (by decide +kernel) (pa_cons (pv 1) pa_nil)))))
  (pss_cons (ps_set (i := 3) sc_law_row.nd rfl (Or.inl rfl) (pe_lst pa_nil))
  (pss_cons (ps_for PassesOwn.never rfl (pi_range1 (by rfl) T.range (pa_cons (pe_own o_law_take (hr.mono (by decide)) (pa_cons (pv 0) (pa_cons pe_int pa_nil))) pa_nil)) (pg_name (i := 4) sc_law_row.nd rfl (Or.inl rfl))
    (pss_cons (ps_expr (pe_bm PySem.F.plainAttrs_list PySem.F.slot_list_append PySem.F.type_list_append mt_append (pv 3) (pa_cons (pv 2) pa_nil)))
      (pss_one (ps_set (i := 2) sc_law_row.nd rfl (Or.inl rfl) (pe_op op_add (pv 2) (pe_own o_law_pick (hr.mono (by decide)) (pa_cons (pv 0) (pa_cons (pe_lst (pa_cons pe_int (pa_cons pe_int (pa_cons pe_int (pa_cons pe_int pa_nil))))) pa_nil))))))))
  (C8.pss_cut (ps_if (pt_cmpR op_eq (pe_own o_law_take (hr.mono (by decide)) (pa_cons (pv 0) (pa_cons pe_int pa_nil))) pe_int (nomark _))
    (pss_one (ps_set (i := 3) sc_law_row.nd rfl (Or.inl rfl) (pe_op op_cat (pe_op op_rep (pe_lst (pa_cons pe_non pa_nil)) (pe_op op_add pe_int (pe_own o_law_take (hr.mono (by decide)) (pa_cons (pv 0) (pa_cons pe_int pa_nil))))) (pv 3))))
    pss_nil)
  (pss_cons (ps_set (i := 5) sc_law_row.nd rfl (Or.inl rfl) (pe_lst pa_nil))
  (pss_cons (ps_for PassesOwn.never rfl (pi_range1 (by rfl) T.range (pa_cons (pe_op op_add pe_int (pe_own o_law_take (hr.mono (by decide)) (pa_cons (pv 0) (pa_cons pe_int pa_nil)))) pa_nil)) (pg_name (i := 4) sc_law_row.nd rfl (Or.inl rfl))
    (pss_cons (ps_expr (pe_bm PySem.F.plainAttrs_list PySem.F.slot_list_append PySem.F.type_list_append mt_append (pv 5) (pa_cons (pv 2) pa_nil)))
      (pss_one (ps_set (i := 2) sc_law_row.nd rfl (Or.inl rfl) (pe_op op_add (pv 2) (pe_own o_law_pick (hr.mono (by decide)) (pa_cons (pv 0) (pa_cons (pe_lst (pa_cons pe_int (pa_cons pe_int (pa_cons pe_int (pa_cons pe_int pa_nil))))) pa_nil))))))))
  (pss_one (ps_ret (pe_tup (pa_cons (pv 3) (pa_cons (pv 5) (pa_cons (pe_op op_add (pe_op op_sub (pe_ix ix_list (pv 5) (pe_un un_neg pe_int) (fun _ _ => rfl)) (pe_ix ix_list (pv 5) pe_int (fun _ _ => rfl))) (pe_own o_law_take (hr.mono (by decide)) (pa_cons (pv 0) (pa_cons pe_int pa_nil)))) pa_nil)))))))))))), ?_⟩
    walk_at "s"
    refine ⟨by decide, hb, fun H1 n0 hn0 s1 b1 => ?_⟩
    have hn0' : n0 < 7 := hn0
    walk_at "s"
    have hlow : (0 : Int) ≤ (if low = true then 1 else 0) ∧ ((if low = true then 1 else 0 : Int)) ≤ 1 := by cases low <;> decide
    generalize hl : (if low = true then (1 : Int) else 0) = l0 at hlow ⊢
    have hs0 : -4 ≤ (n0 : Int) - 4 * l0 ∧ (n0 : Int) - 4 * l0 ≤ 6 := ⟨by omega, by omega⟩
    generalize hst : (n0 : Int) - 4 * l0 = st at hs0
    walk_at "new"
    rename_i pF nF H2 s2 e2
    have nFb : pF ≠ b := b1.ne nF
    have b2 := b1.same s2
    walk_at "s"
    refine ⟨by decide, b2, fun H3 n1 hn1 s3 b3 => ?_⟩
    have hn1' : n1 < 4 := hn1
    have e3 := s3 _ _ nFb e2
    have S3 : Bx b H H3 := s1.trans ((Bx.of s2).trans s3)
    have nFH : H pF = none := by
      cases q : H pF with
      | none => rfl
      | some o =>
        have := s1 _ _ nFb q
        rw [nF] at this
        cases this
    walk_at "s"
    refine ⟨by omega, by omega, for_range (lo := 0) (n := n1) (fun i σ H' => ∃ (fl : List Int) (h : Int) (y : Option V), σ = [some (.ref b), some (.bl low), some (.int h), some (.ref pF), y, none] ∧ Bx b H H' ∧ BoxAt H' b ∧ H' pF = some (.lst (fl.map V.int)) ∧ fl.length = i ∧ Up st fl h ∧ st ≤ h ∧ h ≤ st + 5 * i) ?_ ?_ ?_⟩
    · refine ⟨[], st, none, ?_, S3, b3, e3, rfl, ⟨List.Pairwise.nil, fun x hx => nomatch hx⟩, Int.le_refl _, by omega⟩
      rw [← hst]
      rfl
    · rintro i σ H' hi ⟨fl, h, y, rfl, S', b', e', hlen, up, h1, h2⟩
      walk_at "s"
      refine ⟨.inl ⟨rfl, _, SqL.of e'⟩, _, rfl, pF, _, _, rfl, rfl, e', by rw [List.length_map]; omega, ?_⟩
      generalize hq : upd _ pF _ = H4
      obtain ⟨e4, o4⟩ := upd_facts hq
      clear hq
      have S4 : Bx b H H4 := fun c o nc e => by
        rw [o4 c (ne_of_none e nFH)]
        exact S' c o nc e
      have b4 : BoxAt H4 b := by
        obtain ⟨x, y, z, x0, hb⟩ := b'
        exact ⟨x, y, z, x0, by rw [o4 b nFb.symm]; exact hb⟩
      walk_at "s"
      walk_at "new"
      rename_i pL nL H5 s5 e5
      have b5 := b4.same s5
      have nLb : pL ≠ b := b4.ne nL
      refine ⟨b, pL, _, rfl, b5, nLb, e5, by decide, by decide, fun H6 x hx s6 b6 => ?_⟩
      obtain ⟨d, rfl, d0, d1⟩ : ∃ d : Int, x = .int d ∧ 0 ≤ d ∧ d ≤ 5 := by
        simp only [List.mem_cons, List.not_mem_nil, or_false] at hx
        rcases hx with rfl | rfl | rfl | rfl
        · exact ⟨0, rfl, by decide, by decide⟩
        · exact ⟨1, rfl, by decide, by decide⟩
        · exact ⟨2, rfl, by decide, by decide⟩
        · exact ⟨5, rfl, by decide, by decide⟩
      have e6 := s6 _ _ nFb (s5 _ _ e4)
      walk_at "s"
      refine ⟨fl ++ [h], h + d, _, rfl, S4.trans ((Bx.of s5).trans s6), b6, ?_, by simp [hlen], up.app h1 (by omega), by omega, by omega⟩
      rw [e6, List.map_append]
      rfl
    · rintro σ H' ⟨fl, h, y, rfl, S', b', e', hlen, up, h1, h2⟩
      refine ⟨fun σ' H4 => ∃ (nn : Nat) (pf : Addr) (y : Option V), σ' = [some (.ref b), some (.bl low), some (.int h), some (.ref pf), y, none] ∧ Bx b H H4 ∧ BoxAt H4 b ∧ H pf = none ∧ pf ≠ b ∧ nn ≤ 2 ∧ H4 pf = some (.lst ((List.replicate nn none ++ fl.map some).map ov)), ?_, ?_⟩
      · walk_at "s"
        refine ⟨by decide, b', fun H4 n4 hn4 s4 b4 => ?_⟩
        have e4 := s4 _ _ nFb e'
        walk_at "s"
        refine ite2 (fun c => ?_) (fun c => ?_)
        · walk_at "new"
          rename_i pN nN H5 s5 e5
          have b5 := b4.same s5
          have nNb : pN ≠ b := b4.ne nN
          have e5f := s5 _ _ e4
          walk_at "s"
          refine ⟨by decide, b5, fun H6 n6 hn6 s6 b6 => ?_⟩
          have hn6' : n6 < 2 := hn6
          have e6 := s6 _ _ nNb e5
          have e6f := s6 _ _ nFb e5f
          walk_at "s"
          refine ⟨_, _, _, rfl, rfl, e6, by omega, by omega, ?_, ?_⟩
          · show 1 * ((1 : Int) + (n6 : Int)).toNat ≤ sizeLine
            omega
          walk_at "new"
          rename_i pR nR H7 s7 e7
          have e7f := s7 _ _ e6f
          rw [List.flatten_replicate_singleton] at e7
          walk_at "s"
          refine ⟨by rw [List.length_replicate, List.length_map]; omega, ?_⟩
          walk_at "new"
          rename_i pS nS H8 s8 e8
          have B8 : Bx b H H8 := S'.trans (s4.trans ((Bx.of s5).trans (s6.trans (Bx.of (s7.trans s8)))))
          have b8 : BoxAt H8 b := (b6.same s7).same s8
          have nSb : pS ≠ b := (b6.same s7).ne nS
          have nSH : H pS = none := by
            cases q : H pS with
            | none => rfl
            | some o =>
              have := s7 _ _ (s6 _ _ nSb (s5 _ _ (s4 _ _ nSb (S' _ _ nSb q))))
              rw [nS] at this
              cases this
          refine ⟨(1 + (n6 : Int)).toNat, pS, y, rfl, B8, b8, nSH, nSb, by omega, ?_⟩
          rw [e8, List.map_append, List.map_replicate, ov_some]
          rfl
        · exact ⟨0, pF, y, rfl, S'.trans s4, b4, nFH, nFb, by omega, by rw [e4, ov_some]; rfl⟩
      · rintro σ' H4 ⟨nn, pf, y4, rfl, S4, b4, nfH, nfb, hnn, e4⟩
        walk_at "new"
        rename_i pA nA H5 s5 e5
        have b5 := b4.same s5
        have nAb : pA ≠ b := b4.ne nA
        have nAf : pf ≠ pA := ne_of_none e4 nA
        have nAH : H pA = none := by
          cases q : H pA with
          | none => rfl
          | some o =>
            have := S4 _ _ nAb q
            rw [nA] at this
            cases this
        have e5f := s5 _ _ e4
        walk_at "s"
        refine ⟨by decide, b5, fun H6 n6 hn6 s6 b6 => ?_⟩
        have hn6' : n6 < 3 := hn6
        have e6 := s6 _ _ nAb e5
        have e6f := s6 _ _ nfb e5f
        have S6 : Bx b H H6 := S4.trans ((Bx.of s5).trans s6)
        walk_at "s"
        refine ⟨by omega, by omega, for_range (lo := 0) (n := (1 + (n6 : Int)).toNat) (fun i σ H' => ∃ (al : List Int) (h' : Int) (y : Option V), σ = [some (.ref b), some (.bl low), some (.int h'), some (.ref pf), y, some (.ref pA)] ∧ Bx b H H' ∧ BoxAt H' b ∧ H' pA = some (.lst (al.map V.int)) ∧ H' pf = some (.lst ((List.replicate nn none ++ fl.map some).map ov)) ∧ al.length = i ∧ Up st (fl ++ al) h' ∧ st ≤ h' ∧ h' ≤ st + 15 + 4 * i ∧ (∀ z, al.head? = some z → h' ≤ z + 4 * i)) ?_ ?_ ?_⟩
        · refine ⟨[], h, _, rfl, S6, b6, e6, e6f, rfl, ?_, h1, by omega, fun z hz => nomatch hz⟩
          rw [List.append_nil]
          exact up
        · rintro i σ H' hi ⟨al, h', y, rfl, S', b', e', ef', hlen', up', h1', h2', h3'⟩
          walk_at "s"
          refine ⟨.inl ⟨rfl, _, SqL.of e'⟩, _, rfl, pA, _, _, rfl, rfl, e', by rw [List.length_map]; omega, ?_⟩
          generalize hq : upd _ pA _ = H7
          obtain ⟨e7, o7⟩ := upd_facts hq
          clear hq
          have S7 : Bx b H H7 := fun c o nc e => by
            rw [o7 c (ne_of_none e nAH)]
            exact S' c o nc e
          have b7 : BoxAt H7 b := by
            obtain ⟨x, y, z, x0, hb⟩ := b'
            exact ⟨x, y, z, x0, by rw [o7 b nAb.symm]; exact hb⟩
          have e7f : H7 pf = some (.lst ((List.replicate nn none ++ fl.map some).map ov)) := by
            rw [o7 _ nAf]
            exact ef'
          walk_at "s"
          walk_at "new"
          rename_i pL nL H8 s8 e8
          have b8 := b7.same s8
          have nLb : pL ≠ b := b7.ne nL
          refine ⟨b, pL, _, rfl, b8, nLb, e8, by decide, by decide, fun H9 x hx s9 b9 => ?_⟩
          obtain ⟨d, rfl, d0, d1⟩ : ∃ d : Int, x = .int d ∧ 0 ≤ d ∧ d ≤ 4 := by
            simp only [List.mem_cons, List.not_mem_nil, or_false] at hx
            rcases hx with rfl | rfl | rfl | rfl
            · exact ⟨0, rfl, by decide, by decide⟩
            · exact ⟨1, rfl, by decide, by decide⟩
            · exact ⟨2, rfl, by decide, by decide⟩
            · exact ⟨4, rfl, by decide, by decide⟩
          have e9 := s9 _ _ nAb (s8 _ _ e7)
          have e9f := s9 _ _ nfb (s8 _ _ e7f)
          walk_at "s"
          refine ⟨al ++ [h'], h' + d, _, rfl, S7.trans ((Bx.of s8).trans s9), b9, ?_, e9f, by simp [hlen'], ?_, by omega, by omega, fun z hz => ?_⟩
          · rw [e9, List.map_append]
            rfl
          · rw [← List.append_assoc]
            exact up'.app h1' (by omega)
          · cases al with
            | nil =>
              have : h' = z := Option.some.inj hz
              omega
            | cons w r =>
              have := h3' z hz
              omega
        · rintro σ H' ⟨al, h', y, rfl, S', b', e', ef', hlen', up', h1', h2', h3'⟩
          have hal : al.length = n6 + 1 := by omega
          obtain ⟨lo, hlo⟩ : ∃ lo, al.head? = some lo := by
            cases al with
            | nil => cases hal
            | cons w r => exact ⟨w, rfl⟩
          obtain ⟨hi, hhi⟩ : ∃ hi, al.getLast? = some hi := by
            cases q : al.getLast? with
            | none =>
              rw [List.getLast?_eq_none_iff.mp q] at hal
              cases hal
            | some w => exact ⟨w, rfl⟩
          have a0 : atI (al.map V.int) 0 = some (.int lo) := atI_head (by rw [List.head?_map, hlo]; rfl)
          have a1 : atI (al.map V.int) (-1) = some (.int hi) := atI_neg1 (by rw [List.getLast?_map, hhi]; rfl)
          walk_at "s"
          refine ⟨by decide, b', fun H7 r hr7 s7 b7 => ?_⟩
          have hr7' : r < 5 := hr7
          have e7 := s7 _ _ nAb e'
          have e7f := s7 _ _ nfb ef'
          walk_at "s"
          walk_at "new"
          rename_i pT nT H8 s8 e8
          have nTb : pT ≠ b := b7.ne nT
          have B8 : Bx b H H8 := S'.trans (s7.trans (Bx.of s8))
          have nTH : H pT = none := by
            cases q : H pT with
            | none => rfl
            | some o =>
              have := s7 _ _ nTb (S' _ _ nTb q)
              rw [nT] at this
              cases this
          have hn1' : n1 < 4 := hn1
          have mlo : lo ∈ al := List.mem_of_mem_head? hlo
          have mhi : hi ∈ al := List.mem_of_getLast? hhi
          have hbd := fun x hx => up'.bd x hx
          have blo := hbd lo (List.mem_append_right _ mlo)
          have bhi := hbd hi (List.mem_append_right _ mhi)
          have hz := h3' lo hlo
          refine k H8 pT (List.replicate nn none ++ fl.map some) (al.map some) (hi - lo + r) B8 (b7.same s8) nTH ⟨pf, pA, nTb, nfb, nAb, e8, s8 _ _ e7f, by rw [s8 _ _ e7, ov_some]⟩
            ⟨nn, fl, al, lo, hi, rfl, rfl, up'.asc, hlo, hhi, by omega, by omega, hnn, by omega, by omega, fun x hx => ?_⟩
          have := hbd x hx
          omega
end
end My

namespace My
open PySem PySem.Spec PyProof.Rows L2
local macro_rules | `(tactic| walk_at "side") => `(tactic| first | (dsimp only; omega) | exact ⟨by omega, by omega⟩ | exact Or.inl ⟨by omega, by omega⟩ | exact Or.inr ⟨by omega, by omega⟩ | decide)
local macro_rules | `(tactic| walk_at "sq") => `(tactic| first | assumption | exact SqL.of (by assumption) | exact SqT.of (by assumption) | (refine L2.Same.seq (by assumption) ?_; walk_at "sq") | (refine L2.Same.seqT (by assumption) ?_; walk_at "sq") | exact Or.inl (by walk_at "sq") | exact Or.inr (by walk_at "sq"))
local macro_rules | `(tactic| walk_at "1") => `(tactic| first
  | refine ⟨_, rfl, iteT ?_⟩
  | refine ⟨_, rfl, iteF ?_⟩
  | refine ⟨_, rfl, ?_⟩
  | refine ⟨_, _, rfl, rfl, (by walk_at "side"), ?_⟩
  | refine ⟨_, _, rfl, rfl, ?_⟩
  | refine ⟨_, _, _, _, true, rfl, .ty _, .base (.int _), kit_ty (a := "int") (by decide +kernel), ?_⟩
  | refine ⟨_, _, _, _, false, rfl, .ty _, .base (.int _), kit_ty (a := "int") (by decide +kernel), ?_⟩
  | refine ⟨_, _, rfl, (by walk_at "sq"), ?_⟩
  | refine ⟨_, _, _, _, rfl, rfl, (by walk_at "sq"), (by first | rfl | assumption), ?_⟩
  | refine Or.inl ⟨_, _, _, _, rfl, rfl, (by walk_at "sq"), (by first | rfl | assumption), ?_⟩
  | refine Or.inr (Or.inl ⟨_, _, _, _, rfl, rfl, (by walk_at "sq"), (by first | rfl | assumption), ?_⟩)
  | refine ⟨_, _, rfl, Or.inl ⟨(by walk_at "sq"), ?_⟩⟩
  | refine ⟨rfl, ?_⟩
  | refine iteT ?_
  | refine iteF ?_
  | refine ⟨_, _, _, _, _, rfl, (by assumption), (by assumption), (by assumption), (by assumption), ?_⟩
  | refine ⟨_, _, _, rfl, (by assumption), rfl, ?_⟩
  | refine Or.inl ⟨_, rfl, ?_⟩
  | refine Or.inr ⟨_, rfl, ?_⟩
  | refine ⟨_, _, rfl, (by walk_at "side"), ?_⟩
  | refine ⟨_, _, rfl, ?_⟩)
local macro_rules | `(tactic| walk_at "fld") => `(tactic| skip)
local macro_rules | `(tactic| walk_at "s") => `(tactic| repeat walk_at "1")
local macro_rules | `(tactic| walk_at "size") => `(tactic| first | exact Nat.le_of_ble_eq_true rfl | (simp only [List.length_map, List.length_append, List.length_cons, List.length_nil]; omega))
local macro_rules | `(tactic| walk_at "new") => `(tactic| (first | refine ⟨(by walk_at "size"), fun p hp => ?_⟩ | refine fun p hp => ?_); (generalize hq : upd _ p _ = H1); (obtain ⟨s, e⟩ := new_facts hp hq); clear hq)

/-- the class of rows lets its attributes be set -/
structure RowCls (K : PySem.W.Frag) (C : Addr) : Prop where
  cl : Cls K C
  nF : NoAttr K C "first"
  nA : NoAttr K C "again"
  nM : NoAttr K C "more"
/-- the class of the error -/
structure ErrC (P : Program) (w : World) (K : PySem.W.Frag) (mg : Str → Option Value) (base : Heap) (D : Addr) (sp : Sp) : Prop where
  ex : ∃ fI fd, OexC K D ∧ PySem.W.findIn K (.ref D) "__init__" = some (some (.ref fI)) ∧ PySem.W.typeIn K (.ref fI) = some (.type "function") ∧ FnOk P w K mg base CX0 1 fI fd ["self", "word"] sp ∧ Binds K fd ["self", "word"] [] ∧ mg "InvalidRow" = some (.ref D)
section
variable {P : Program} {w : World} {K : PySem.W.Frag} {mg : Str → Option Value} {base : Heap} {C D : Addr}
abbrev s_IR_init : Stmt := inClass (topS 3) 0
theorem sc_IR_init : FnScope ["self", "word"] ["self", "word"] (defScope s_IR_init) := ⟨rfl, rfl, rfl, by decide +kernel, rfl, by decide +kernel, by decide +kernel⟩
def spErr (D : Addr) : Sp := fun vs H Q _ => ∃ (a : Addr) (y : V), vs = [.ref a, y] ∧ H a = some (exo a D none) ∧ ∀ dx, H dx = none → dx ≠ a → Q .non (upd (upd H dx (exd dx [("word", y)])) a (exo a D (some dx)))
theorem ok_err {f1 : Addr} {fd : FuncData} (F : Fun K "__init__" "InvalidRow.__init__" s_IR_init f1 fd) (O : OexC K D) (nw : PySem.W.findIn K (.ref D) "word" = some none) : FnOk P w K mg base CX0 1 f1 fd ["self", "word"] (spErr D) := by
  refine F.ok sc_IR_init (fun vs H Q E h => ?_) (fun cdv A outer s H vs Q E hr h => ?_)
  · obtain ⟨_, _, rfl, _⟩ := h
    rfl
  · obtain ⟨a, y, rfl, e, k⟩ := h
    refine ⟨_, pss_one (ps_ost (pv 0) (pv 1)), ?_⟩
    exact ⟨_, rfl, _, rfl, a, D, rfl, O, nw, Or.inl ⟨e, fun dx n ne => k dx n ne⟩⟩
abbrev s_Row_init : Stmt := inClass (topS 14) 0
theorem sc_Row_init : FnScope ["self", "first", "again", "more", "word", "turn", "grow", "things", "begin"] ["self", "first", "again", "more"] (defScope s_Row_init) := ⟨rfl, rfl, rfl, by decide +kernel, rfl, by decide +kernel, by decide +kernel⟩
/-- a row is made, or the wrong argument told -/
def spInit (C D : Addr) : Sp := fun vs H Q E => ∃ (H0 : Hp) (p dx : Addr) (v1 v2 v3 : V), vs = [.ref p, v1, v2, v3] ∧ H0 p = none ∧ Same H0 H ∧ H p = some (.ins C dx []) ∧
  ((∃ (f a : Arg) (m : El) (w : Str), ArgAt C H0 v1 f ∧ ArgAt C H0 v2 a ∧ ElAt H0 v3 m ∧ wordA f a m = some w ∧ ∀ H' d, Same H0 H' → H' d = some (.xd [("word", .str w)]) → E (.ref D) (some d) H') ∨
  ∃ (aF aA : Addr) (f a : List (Option Int)) (m : Int), v1 = .ref aF ∧ v2 = .ref aA ∧ v3 = .int m ∧ SqH H0 aF (f.map ov) ∧ SqH H0 aA (a.map ov) ∧ wordA (some (f.map some)) (some (a.map some)) (some (some m)) = none ∧ a ≠ [] ∧
    f.length < 500 ∧ a.length < 500 ∧ 0 ≤ m ∧ m < 2 ^ 60 ∧ ∀ H', Same H0 H' → (∃ dx fs, H' p = some (.ins C dx fs)) → Q .non H')
set_option maxHeartbeats 8000000 in
theorem ok_init {f1 : Addr} {fd : FuncData} (F : FunD K "__init__" "Row.__init__" (defArgs s_Row_init) (defBody s_Row_init) (defScope s_Row_init) [.int 0] [] f1 fd) (R : RowCls K C) (T : Txt mg) (X : ErrC P w K mg base D (spErr D))
    (o_wrong_argument : Own P w K mg base "_wrong_argument" 3 ["first", "again", "more"] (spWrong C)) (o_shortest_turn : Own P w K mg base "_shortest_turn" 2 ["again", "more"] spShortT)
    (o_shortest_first : Own P w K mg base "_shortest_first" 2 ["things", "begin", "turn", "grow"] spShortF) : FnOk P w K mg base (L2.CX P w) 4 f1 fd ["self", "first", "again", "more"] (spInit C D) := by
  obtain ⟨fI, fdI, OX, iC, tI, FI, bI, mI⟩ := X.ex
  refine F.ok sc_Row_init (fun vs H Q E h => ?_) (fun cdv A outer s H vs Q E hr h => ?_)
  · obtain ⟨_, _, _, _, _, _, rfl, _⟩ := h
    rfl
  · obtain ⟨H0, p, dx, v1, v2, v3, rfl, hp0, s0, hp, hor⟩ := h
    refine ⟨_, (pss_cons (ps_set (i := 4) sc_Row_init.nd rfl (Or.inl rfl) (pe_own o_wrong_argument (hr.mono (by decide)) (pa_cons (pv 1) (pa_cons (pv 2) (pa_cons (pv 3) pa_nil)))))
  (pss_cons (ps_if (pt_cmpR op_notN (pv 4) pe_non (nomark _))
    (pss_one (ps_raise rfl (takes_of rfl rfl rfl rfl) (pmk_oex OX iC tI FI (hr.mono (by decide)) bI .nil pass0 rfl mI (pa_cons (pv 4) pa_nil))))
    pss_nil)
  (pss_cons (ps_set (i := 5) sc_Row_init.nd rfl (Or.inl rfl) (pe_own o_shortest_turn (hr.mono (by decide)) (pa_cons (pv 2) (pa_cons (pv 3) pa_nil))))
  (pss_cons (ps_set (i := 6) sc_Row_init.nd rfl (Or.inl rfl) (pe_op op_fdiv (pe_op op_mul (pv 3) (pv 5)) (pe_callB call_len_seq (by rfl) T.len PySem.boot_len (pa_cons (pv 2) pa_nil))))
  (pss_cons (ps_set (i := 7) sc_Row_init.nd rfl (Or.inl rfl) (pe_lst (StX.pa_star (pv 1) (StX.pa_star (pv 2) pa_nil))))
  (pss_cons (ps_set (i := 8) sc_Row_init.nd rfl (Or.inl rfl) (pe_own o_shortest_first (hr.mono (by decide)) (pa_cons (pv 7) (pa_cons (pe_callB call_len_seq (by rfl) T.len PySem.boot_len (pa_cons (pv 1) pa_nil)) (pa_cons (pv 5) (pa_cons (pv 6) pa_nil))))))
  (pss_cons (ps_fld (pv 0) (pe_callTy call_tuple_of (by rfl) T.tuple (by decide +kernel) (pa_cons (pe_slice sl_list (pv 7) po_none (po_some (pv 8))) pa_nil)) rfl)
  (pss_cons (ps_fld (pv 0) (pe_callTy call_tuple_of (by rfl) T.tuple (by decide +kernel) (pa_cons (pe_slice sl_list (pv 7) (po_some (pv 8)) (po_some (pe_op op_add (pv 8) (pv 5)))) pa_nil)) rfl)
  (pss_one (ps_fld (pv 0) (pv 6) rfl)))))))))), ?_⟩
    have h1000 : 1000 < sizeLine := small1000 (Nat.le_refl _)
    rcases hor with ⟨f, a, m, w', hF, hA, hM, ew, k⟩ | ⟨aF, aA, f, a, m, rfl, rfl, rfl, hF, hA, ew, ne, lf, la, m0, m1, k⟩
    · refine ⟨_, rfl, _, rfl, _, rfl, ?_⟩
      refine ⟨v1, v2, v3, f, a, m, rfl, hF.same s0, hA.same s0, hM.same s0, fun H1 s1 => ?_⟩
      rw [ew]
      walk_at "s"
      refine ⟨(by show 1 ≤ 1000; decide), fun q nq => ?_⟩
      refine ⟨q, .str w', rfl, upd_same, fun d nd ned => ?_⟩
      have nd1 : H1 d = none := by
        rw [upd_ne ned] at nd
        exact nd
      refine ⟨rfl, d, [("word", .str w')], upd_same, ?_, nd1, ?_⟩
      · rw [upd_ne ned, upd_same]
      · refine k _ d (fun b o e => ?_) upd_same
        have e1 := s1 _ _ (s0 _ _ e)
        have nb : b ≠ d := ne_of_none e1 nd1
        have nq' : b ≠ q := ne_of_none e1 nq
        rw [upd_ne nb, del_ne nq', upd_ne nq', upd_ne nb, upd_ne nq']
        exact e1
    · walk_at "s"
      refine ⟨.ref aF, .ref aA, .int m, _, _, _, rfl, .seq (s0.sqh hF) (els_ov _ _), .seq (s0.sqh hA) (els_ov _ _), .int m, fun H1 s1 => ?_⟩
      rw [ew]
      walk_at "s"
      refine ⟨aA, a, m, rfl, s1.sqh (s0.sqh hA), ne, by omega, m0, m1, fun H2 t s2 ht => ?_⟩
      have t0 := ht.fits.pos
      have t1 := ht.le
      have hA2 : SqH H2 aA (a.map ov) := s2.sqh (s1.sqh (s0.sqh hA))
      have hF2 : SqH H2 aF (f.map ov) := s2.sqh (s1.sqh (s0.sqh hF))
      have hA2s : SqL K H2 aA (a.map ov) ∨ SqT K H2 aA (a.map ov) := hA2.sqs
      have hA2t : SqT K H2 aA (a.map ov) ∨ SqL K H2 aA (a.map ov) := hA2.sqs.symm
      have hF2t : SqT K H2 aF (f.map ov) ∨ SqL K H2 aF (f.map ov) := hF2.sqs.symm
      have hla : ((a.map ov).length : Int) = (a.length : Int) := by rw [List.length_map]
      walk_at "s"
      walk_at "new"
      rename_i pt nt H3 s3 e3
      rw [show f.map ov ++ (a.map ov ++ []) = (f ++ a).map ov by rw [List.append_nil, List.map_append]] at e3
      have hF3 : SqL K H3 aF (f.map ov) ∨ SqT K H3 aF (f.map ov) := (s3.sqh hF2).sqs
      walk_at "s"
      rw [hla, show (f.map ov).length = f.length from List.length_map ..]
      refine ⟨pt, f ++ a, f.length, t, _, rfl, e3, t0, by rw [List.length_append]; omega, fun H4 b s4 hb => ?_⟩
      have hlen : (f ++ a).length = f.length + a.length := List.length_append
      have b0 := hb.le
      have e4 := s4 _ _ e3
      walk_at "s"
      have s04 : Same H0 H4 := s0.trans (s1.trans (s2.trans (s3.trans s4)))
      have hp4 : H4 p = some (.ins C dx []) := s4 _ _ (s3 _ _ (s2 _ _ (s1 _ _ hp)))
      walk_at "new"
      rename_i p5 n5 H5 s5 e5
      rw [cut_to (by rw [List.length_map]; omega), ← List.map_take] at e5
      walk_at "s"
      walk_at "new"
      rename_i p6 n6 H6 s6 e6
      have hp6 : H6 p = some (.ins C dx []) := s6 _ _ (s5 _ _ hp4)
      have d6 : p ≠ p6 := ne_of_none (s5 _ _ hp4) n6
      refine ⟨_, rfl, p, C, dx, [], rfl, hp6, R.cl, R.nF, (by show 0 < 1000; decide), ?_⟩
      generalize hq : upd _ p _ = H7
      obtain ⟨e7, o7⟩ := upd_facts hq
      clear hq
      have dt : pt ≠ p := fun q => by
        rw [q] at e4
        rw [e4] at hp4
        cases hp4
      have e7t : H7 pt = some (.lst ((f ++ a).map ov)) := (o7 _ dt).trans (s6 _ _ (s5 _ _ e4))
      walk_at "s"
      rw [show (b : Int) + (t : Int) = ((b + t : Nat) : Int) by omega]
      walk_at "s"
      walk_at "new"
      rename_i p8 n8 H8 s8 e8
      rw [cut_mid (by rw [List.length_map]; omega) (by omega), Nat.add_sub_cancel_left, ← List.map_drop, ← List.map_take] at e8
      walk_at "s"
      walk_at "new"
      rename_i p9 n9 H9 s9 e9
      have hp9 := s9 _ _ (s8 _ _ e7)
      refine ⟨_, rfl, p, C, dx, _, rfl, hp9, R.cl, R.nA, (by show 1 < 1000; decide), ?_⟩
      generalize hq : upd _ p _ = H10
      obtain ⟨e10, o10⟩ := upd_facts hq
      clear hq
      refine ⟨_, rfl, _, rfl, p, C, dx, _, rfl, e10, R.cl, R.nM, (by show 2 < 1000; decide), ?_⟩
      generalize hq : upd _ p _ = H11
      obtain ⟨e11, o11⟩ := upd_facts hq
      clear hq
      have np : ∀ c o, H0 c = some o → c ≠ p := fun c o e => ne_of_none e hp0
      refine k H11 (fun c o e => ?_) ⟨_, _, e11⟩
      rw [o11 _ (np _ _ e), o10 _ (np _ _ e)]
      refine s9 _ _ (s8 _ _ ?_)
      rw [o7 _ (np _ _ e)]
      exact s6 _ _ (s5 _ _ (s04 _ _ e))
end
end My

namespace My
open PySem PySem.Spec PyProof.Rows L2
local macro_rules | `(tactic| walk_at "side") => `(tactic| first | (dsimp only; omega) | exact ⟨by omega, by omega⟩ | exact Or.inl ⟨by omega, by omega⟩ | exact Or.inr ⟨by omega, by omega⟩ | decide)
local macro_rules | `(tactic| walk_at "sq") => `(tactic| first | assumption | exact SqL.of (by assumption) | exact SqT.of (by assumption) | (refine L2.Same.seq (by assumption) ?_; walk_at "sq") | (refine L2.Same.seqT (by assumption) ?_; walk_at "sq") | exact Or.inl (by walk_at "sq") | exact Or.inr (by walk_at "sq"))
local macro_rules | `(tactic| walk_at "1") => `(tactic| first
  | refine ⟨_, rfl, iteT ?_⟩
  | refine ⟨_, rfl, iteF ?_⟩
  | refine ⟨_, rfl, ?_⟩
  | refine ⟨_, _, rfl, rfl, (by walk_at "side"), ?_⟩
  | refine ⟨_, _, rfl, rfl, ?_⟩
  | refine ⟨_, _, _, _, true, rfl, .ty _, .base (.int _), kit_ty (a := "int") (by decide +kernel), ?_⟩
  | refine ⟨_, _, _, _, false, rfl, .ty _, .base (.int _), kit_ty (a := "int") (by decide +kernel), ?_⟩
  | refine ⟨_, _, rfl, (by walk_at "sq"), ?_⟩
  | refine ⟨_, _, _, _, rfl, rfl, (by walk_at "sq"), (by first | rfl | assumption), ?_⟩
  | refine Or.inl ⟨_, _, _, _, rfl, rfl, (by walk_at "sq"), (by first | rfl | assumption), ?_⟩
  | refine Or.inr (Or.inl ⟨_, _, _, _, rfl, rfl, (by walk_at "sq"), (by first | rfl | assumption), ?_⟩)
  | refine ⟨_, _, rfl, Or.inl ⟨(by walk_at "sq"), ?_⟩⟩
  | refine ⟨rfl, ?_⟩
  | refine iteT ?_
  | refine iteF ?_
  | refine ⟨_, _, _, _, _, rfl, (by assumption), (by assumption), (by assumption), (by assumption), ?_⟩
  | refine ⟨_, _, _, rfl, (by assumption), rfl, ?_⟩
  | refine Or.inl ⟨_, rfl, ?_⟩
  | refine Or.inr ⟨_, rfl, ?_⟩
  | refine ⟨_, _, rfl, (by walk_at "side"), ?_⟩
  | refine ⟨_, _, rfl, ?_⟩)
local macro_rules | `(tactic| walk_at "fld") => `(tactic| skip)
local macro_rules | `(tactic| walk_at "s") => `(tactic| repeat walk_at "1")
local macro_rules | `(tactic| walk_at "size") => `(tactic| first | exact Nat.le_of_ble_eq_true rfl | (simp only [List.length_map, List.length_append, List.length_cons, List.length_nil]; omega))
local macro_rules | `(tactic| walk_at "new") => `(tactic| (first | refine ⟨(by walk_at "size"), fun p hp => ?_⟩ | refine fun p hp => ?_); (generalize hq : upd _ p _ = H1); (obtain ⟨s, e⟩ := new_facts hp hq); clear hq)

section
variable {X : Cx} {CX : CXT} {k : Nat} {f C : Addr} {fd : FuncData} {ps : List Str} {sp : Sp} {E : L2.St → XK} {x : Str} {p pos : Pos} {e : Expr} {es : List Expr} {t : TA} {ds : List Value} {dvs : List V}
/-- an object is made, and what its __init__ lets out is told with the slots -/
def tMakeS (C : Addr) (sp : Sp) (dvs : List V) (E : L2.St → XK) (t : TA) : TE := fun σ H Q => t σ H fun vs H1 => ∀ x dx, H1 x = none → H1 dx = none → dx ≠ x →
  sp (.ref x :: (vs ++ dvs)) (upd (upd H1 dx (.own x)) x (.ins C dx [])) (fun v H2 => v = .non ∧ Q (.ref x) H2) (E σ)
theorem pe_makeS (M : Mk X.K C f) (F : FnOk X.prog X.w X.K X.mg X.base CX k f fd ps sp) (hr : Room (k + 1) X.A) (isGlob : Gl X x) (stands : X.mg x = some (.ref C)) (hb : Binds X.K fd ps ds) (hd : Vals dvs ds) (hx : ∀ σ, PassesAt CX X σ (E σ))
    (ha : PA X (e :: es) t) (notDebug : (x == ("__debug__" : Str)) = false := by decide) (first1 : starEach (e :: es) X.env = (false, eval e X.env) :: starEach es X.env := by rfl) (noStar : (backTo pos (starEach es X.env)).any (·.1) = false := by rfl) :
    PE X (.Call (.Name x p) (e :: es) [] pos) (tMakeS C sp dvs E t) := by
  refine ⟨fun pins s σ H Q I red => ?_⟩
  refine wpAny_Call_Name_kw (ld_glob I isGlob stands ?_ notDebug)
  refine PySem.W.callWith_K (h₀ := X.base) I.ok.mod.kin M.kp (thn (ha.run pos pins s σ H _ I red) fun us s1 ⟨vs, H1, J1, r, q⟩ => ⟨J1.kIn, ?_⟩) first1 noStar
  have hq := q (s1.heap.objs.size + 1) s1.heap.objs.size (J1.hok.fresh (Nat.le_succ _)) (J1.hok.fresh (Nat.le_refl _)) (Nat.ne_of_lt (Nat.lt_succ_self _))
  have J2 := Inv.made (C := C) J1
  have r2 : Vals (V.ref (s1.heap.objs.size + 1) :: (vs ++ dvs)) (Value.ref (s1.heap.objs.size + 1) :: (us ++ ds)) := .cons rfl (r.append hd)
  have hl : (Value.ref (s1.heap.objs.size + 1) :: us ++ ds).length = ps.length := by
    have e := r2.length
    rw [F.len _ _ _ _ hq] at e
    exact e.symm
  refine wpAny_call (make_map (f := f) J1.kIn M.makes M.init (beq_iff_eq.mp M.fn) (codeAny_mono (F.run _ X.stack _ _ ⟨Value.ref (s1.heap.objs.size + 1) :: us, []⟩ (Value.ref (s1.heap.objs.size + 1) :: (us ++ ds)) _ _ (E σ) (hr.make C us [])
    (J2.env0.make C us []) (hb _ (Value.ref (s1.heap.objs.size + 1) :: us) J2.kIn hl) r2 hq) fun r s' ends => ?_))
  cases r with
  | error e => exact hx σ pins _ _ e s' J2 ends
  | ok fl =>
    cases fl with
    | ret u =>
      obtain ⟨v, K3, J3, rv, ev, rest⟩ := J2.after ends
      subst ev
      exact ⟨rv, ⟨V.ref (s1.heap.objs.size + 1), K3, J3, rfl, rest⟩⟩
    | next => exact ends.elim
    | brk => exact ends.elim
    | cont => exact ends.elim
end
/-- isinstance of the caught error, which has a dict of its own -/
def rIsD (K : PySem.W.Frag) (cls : Value) (d : Option Addr) (a : Addr) : List V → Hp → VK → Prop := fun xs H Q => ∃ (D dd : Addr) (fs : List (Str × V)) (c : V) (cv : Value) (b : Bool), cls = .ref D ∧ d = some dd ∧ ExcC K D ∧ H dd = some (.xd fs) ∧
  xs = [.ref a, c] ∧ ClsV c cv ∧ PySem.W.kitOne K (.ref D) cv = some b ∧ Q (.bl b) H
def rIsDT (K : PySem.W.Frag) (cls : Value) (d : Option Addr) (a : Addr) : List V → Hp → VK → Prop := fun xs H Q => ∃ (D dd tp : Addr) (fs : List (Str × V)) (cs : List V) (us : List Value) (b : Bool), cls = .ref D ∧ d = some dd ∧ ExcC K D ∧ H dd = some (.xd fs) ∧
  xs = [.ref a, .ref tp] ∧ H tp = some (.tup cs) ∧ Paired ClsV cs us ∧ PySem.W.kitAny K (.ref D) us = some b ∧ Q (.bl b) H
theorem instD {X : Cx} {a D dd : Addr} {oe : Obj} {pn : List (Addr × Obj)} {pins : List (Addr × Obj)} {σ : L2.St} {H : Hp} {s : Shared} {fs : List (Str × V)} (I : Inv (X.suite a ((a, oe) :: pn)) pins σ H s) (hz : Zc (.ref D) (some dd) oe) (hf : ∃ vs, oe.data = .fields vs) (ed : H dd = some (.xd fs)) :
    ∃ od, PySem.W.InstAt s.heap a oe D (some od) := by
  obtain ⟨ha, _⟩ := I.pin (a, oe) (List.mem_append.mpr (.inl List.mem_cons_self))
  obtain ⟨vs, hd⟩ := hf
  have hx : ObjOk X.prog X.w H s.heap dd (.xd fs) := I.hok dd _ ed
  obtain ⟨mA, hns, hr⟩ := hx
  obtain ⟨od, ho, hl⟩ := lookIn_ns hns
  exact ⟨od, ha, hz.1, by unfold PySem.W.notCls; rw [hd] <;> rfl, by rw [hz.2]; exact ho⟩
theorem hasCls {K : PySem.W.Frag} {D : Addr} (h : PySem.W.hasDictIn K D = true) : (PySem.W.clsIn K D).isSome = true := by
  obtain ⟨cd, hc, _⟩ := PySem.W.any_some h
  rw [hc]
  rfl
theorem call_isD {X : Cx} {a : Addr} {oe : Obj} {cls : Value} {d : Option Addr} {pn : List (Addr × Obj)} (hz : Zc cls d oe) (hf : ∃ vs, oe.data = .fields vs) : CallR (X.suite a ((a, oe) :: pn)) (.builtin "isinstance") (rIsD X.K cls d a) := by
  intro pins s σ H vals us Q I r red
  obtain ⟨D, dd, fs, c, cv, b, rfl, rfl, C, ed, rfl, hcv, e, q⟩ := red
  obtain ⟨ua, ub, rfl, ra, rb⟩ := vals2 r
  have e2 := hcv.eq rb
  subst e2
  obtain rfl : ua = Value.ref a := ra
  obtain ⟨od, J⟩ := instD I hz hf ed
  exact PySem.W.kia_one (PySem.W.kitx_exc (hasCls C.hd) C.hg C.hk C.hs C.ha C.hn C.ht C.hm) I.kIn J e (fun z => nomatch z) fun tk => ⟨.bl b, H, I.kept (t' := tk) fun _ _ z => z, rfl, q⟩
theorem call_isDT {X : Cx} {a : Addr} {oe : Obj} {cls : Value} {d : Option Addr} {pn : List (Addr × Obj)} (hz : Zc cls d oe) (hf : ∃ vs, oe.data = .fields vs) : CallR (X.suite a ((a, oe) :: pn)) (.builtin "isinstance") (rIsDT X.K cls d a) := by
  intro pins s σ H vals us Q I r red
  obtain ⟨D, dd, tp, fs, cs, ws, b, rfl, rfl, C, ed, rfl, hT, k, e, q⟩ := red
  obtain ⟨ua, ub, rfl, ra, rb⟩ := vals2 r
  cases (show ub = Value.ref tp from rb)
  obtain rfl : ua = Value.ref a := ra
  obtain ⟨od, J⟩ := instD I hz hf ed
  obtain ⟨_, things, rv, o, h1, h2, n, h3⟩ := (show ObjOk X.prog X.w H s.heap tp (.tup cs) from I.hok tp _ hT)
  have e3 := ClsV.all k rv
  subst e3
  obtain ⟨oc, od', dt, sl⟩ := o
  simp only at h2 h3
  subst h2 h3
  exact PySem.W.kia_tup (PySem.W.kitx_exc (hasCls C.hd) C.hg C.hk C.hs C.ha C.hn C.ht C.hm) I.kIn J h1 e (fun z => nomatch z) fun tk => ⟨.bl b, H, I.kept (t' := tk) fun _ _ z => z, rfl, q⟩
/-- the classes of errors -/
structure HeardC (K : PySem.W.Frag) (mg : Str → Option Value) (D W M U : Addr) : Prop where
  X : ExcC K D
  nw : PySem.W.findIn K (.ref D) "word" = some none
  te : PySem.W.exmOne K (.ref D) (.ref D) = some true
  gD : mg "InvalidRow" = some (.ref D)
  gW : mg "WaitError" = some (.ref W)
  gM : mg "InvalidModule" = some (.ref M)
  gU : mg "InvalidText" = some (.ref U)
  kW : PySem.W.kitOne K (.ref D) (.ref W) = some true
  kM : PySem.W.kitOne K (.ref D) (.ref M) = some false
  kU : PySem.W.kitOne K (.ref D) (.ref U) = some false
/-- three arguments, and the word that is told of them -/
def HArg (C : Addr) (H : Hp) (v1 v2 v3 : V) (o : Option Str) : Prop :=
  (∃ (f a : Arg) (m : El) (w : Str), ArgAt C H v1 f ∧ ArgAt C H v2 a ∧ ElAt H v3 m ∧ wordA f a m = some w ∧ o = some w) ∨
  ∃ (aF aA : Addr) (f a : List (Option Int)) (m : Int), v1 = .ref aF ∧ v2 = .ref aA ∧ v3 = .int m ∧ SqH H aF (f.map ov) ∧ SqH H aA (a.map ov) ∧ wordA (some (f.map some)) (some (a.map some)) (some (some m)) = none ∧ a ≠ [] ∧
    f.length < 500 ∧ a.length < 500 ∧ 0 ≤ m ∧ m < 2 ^ 60 ∧ o = none
structure RowMk (P : Program) (w : World) (K : PySem.W.Frag) (mg : Str → Option Value) (base : Heap) (C D : Addr) : Prop where
  ex : ∃ f fd, FnOk P w K mg base (L2.CX P w) 4 f fd ["self", "first", "again", "more"] (spInit C D) ∧ mg "Row" = some (.ref C) ∧ Mk K C f ∧ Binds K fd ["self", "first", "again", "more"] []
section
variable {P : Program} {w : World} {K : PySem.W.Frag} {mg : Str → Option Value} {base : Heap} {C D W M U : Addr}
abbrev s_law_heard : Stmt := topS 34
theorem sc_law_heard : FnScope ["first", "again", "more", "found", "e"] ["first", "again", "more"] (defScope s_law_heard) := ⟨rfl, rfl, rfl, by decide +kernel, rfl, by decide +kernel, by decide +kernel⟩
def spHeard (C : Addr) : Sp := fun vs H Q _ => ∃ (v1 v2 v3 : V) (o : Option Str), vs = [v1, v2, v3] ∧ HArg C H v1 v2 v3 o ∧ ∀ H', Same H H' → Q (ovs o) H'
theorem ok_heard (F : Df K mg "_law_heard" s_law_heard ["first", "again", "more"]) (T : Txt mg) (Z : HeardC K mg D W M U) (R : RowMk P w K mg base C D) : Own P w K mg base "_law_heard" 6 ["first", "again", "more"] (spHeard C) := by
  obtain ⟨fR, fdR, FR, mR, MR, bR⟩ := R.ex
  refine F.own sc_law_heard (fun vs H Q E h => ?_) (fun fa cdv A outer s H vs Q E hr h => ?_)
  · obtain ⟨_, _, _, _, rfl, _⟩ := h
    rfl
  · obtain ⟨v1, v2, v3, o, rfl, hA, k⟩ := h
    refine ⟨_, (pss_cons (ps_set (i := 3) sc_law_heard.nd rfl (Or.inl rfl) pe_non)
      (pss_cons (ps_try_as (i := 4) (tb := fun W' => tDrop (tMakeS C (spInit C D) [] (WE W') (tCons (tVar 0) (tCons (tVar 1) (tCons (tVar 2) tNil))))) (ts := _) (Wout := fun _ _ _ _ => False) rfl rfl sc_law_heard.nd rfl rfl ⟨rfl, by decide, Or.inl Z.gD⟩ takes0
          (fun W' pn xe tk _ => pss_one (ps_expr (by exact (pe_makeS MR FR (hr.mono (by decide)) rfl mR bR .nil (fun σ => passAt tk σ) (by exact (pa_cons (pv 0) (pa_cons (pv 1) (pa_cons (pv 2) pa_nil))))))))
          (fun a oe cls d pn hz hf => pss_one (ps_set (i := 3) sc_law_heard.nd rfl (Or.inl rfl) (by exact (pe_ifExp
            (PW.pt (pw_and (pt_val (pe_callB (call_isD hz hf) (by rfl) T.isinstance (by decide +kernel) (pa_cons (pv 4) (pa_cons (pe_glob (v := .ref W) (by rfl) Z.gW rfl) pa_nil))))
              (pw_and1 (pt_not (pt_val (pe_callB (call_isDT hz hf) (by rfl) T.isinstance (by decide +kernel) (pa_cons (pv 4) (pa_cons (pe_tup (pa_cons (pe_glob (v := .ref M) (by rfl) Z.gM rfl) (pa_cons (pe_glob (v := .ref U) (by rfl) Z.gU rfl) pa_nil))) pa_nil))))))))
            (pe_xf ⟨Z.X.hg, Z.X.hk, Z.X.hs, Z.X.hd⟩ Z.nw hz hf (pv 4)) pe_str)))))
      (pss_one (ps_ret (pv 3))))), ?_⟩
    refine ⟨_, rfl, _, rfl, _, rfl, fun x dx nx ndx nex => ?_⟩
    have sx : Same H (upd (upd H dx (.own x)) x (.ins C dx [])) := fun b o e => by
      rw [upd_ne (ne_of_none e nx), upd_ne (ne_of_none e ndx)]
      exact e
    refine ⟨H, x, dx, v1, v2, v3, rfl, nx, sx, upd_same, ?_⟩
    rcases hA with ⟨f, a, m, w', hF, hA, hM, ew, eo⟩ | ⟨aF, aA, f, a, m, e1, e2, e3, hF, hA, ew, ne, lf, la, m0, m1, eo⟩
    · refine Or.inl ⟨f, a, m, w', hF, hA, hM, ew, fun H' d s' e' => ?_⟩
      refine ⟨true, Z.te, fun _ a0 _ => ?_, fun z => nomatch z⟩
      refine ⟨_, rfl, ?_⟩
      refine ⟨D, d, _, _, _, true, rfl, rfl, Z.X, e', rfl, .own W, Z.kW, ?_⟩
      walk_at "s"
      walk_at "new"
      rename_i tp ntp H1 s1 et
      refine ⟨D, d, tp, _, _, _, false, rfl, rfl, Z.X, s1 _ _ e', rfl, et, .cons (.own M) (.cons (.own U) .nil), kitAny_cons Z.kM (fun _ => kitAny_cons Z.kU (fun _ => kitAny_nil) (fun z => nomatch z)) (fun z => nomatch z), ?_⟩
      walk_at "s"
      refine ⟨d, _, _, rfl, s1 _ _ e', rfl, ?_⟩
      walk_at "s"
      have k' := k H1 (s'.trans s1)
      rw [eo] at k'
      exact k'
    · refine Or.inr ⟨aF, aA, f, a, m, e1, e2, e3, hF, hA, ew, ne, lf, la, m0, m1, fun H' s' _ => ⟨rfl, ?_⟩⟩
      rw [eo] at k
      exact ⟨_, rfl, k _ s'⟩
end
end My

namespace My
open PySem PySem.Spec PyProof.Rows L2
local macro_rules | `(tactic| walk_at "side") => `(tactic| first | (dsimp only; omega) | exact ⟨by omega, by omega⟩ | exact Or.inl ⟨by omega, by omega⟩ | exact Or.inr ⟨by omega, by omega⟩ | decide)
local macro_rules | `(tactic| walk_at "sq") => `(tactic| first | assumption | exact SqL.of (by assumption) | exact SqT.of (by assumption) | (refine L2.Same.seq (by assumption) ?_; walk_at "sq") | (refine L2.Same.seqT (by assumption) ?_; walk_at "sq") | exact Or.inl (by walk_at "sq") | exact Or.inr (by walk_at "sq"))
local macro_rules | `(tactic| walk_at "1") => `(tactic| first
  | refine ⟨_, rfl, iteT ?_⟩
  | refine ⟨_, rfl, iteF ?_⟩
  | refine ⟨_, rfl, ?_⟩
  | refine ⟨_, _, rfl, rfl, (by walk_at "side"), ?_⟩
  | refine ⟨_, _, rfl, rfl, ?_⟩
  | refine ⟨_, _, _, _, true, rfl, .ty _, .base (.int _), kit_ty (a := "int") (by decide +kernel), ?_⟩
  | refine ⟨_, _, _, _, false, rfl, .ty _, .base (.int _), kit_ty (a := "int") (by decide +kernel), ?_⟩
  | refine ⟨_, _, rfl, (by walk_at "sq"), ?_⟩
  | refine ⟨_, _, _, _, rfl, rfl, (by walk_at "sq"), (by first | rfl | assumption), ?_⟩
  | refine Or.inl ⟨_, _, _, _, rfl, rfl, (by walk_at "sq"), (by first | rfl | assumption), ?_⟩
  | refine Or.inr (Or.inl ⟨_, _, _, _, rfl, rfl, (by walk_at "sq"), (by first | rfl | assumption), ?_⟩)
  | refine ⟨_, _, rfl, Or.inl ⟨(by walk_at "sq"), ?_⟩⟩
  | refine ⟨rfl, ?_⟩
  | refine iteT ?_
  | refine iteF ?_
  | refine ⟨_, _, _, _, _, rfl, (by assumption), (by assumption), (by assumption), (by assumption), ?_⟩
  | refine ⟨_, _, _, rfl, (by assumption), rfl, ?_⟩
  | refine Or.inl ⟨_, rfl, ?_⟩
  | refine Or.inr ⟨_, rfl, ?_⟩
  | refine ⟨_, _, rfl, (by walk_at "side"), ?_⟩
  | refine ⟨_, _, rfl, ?_⟩)
local macro_rules | `(tactic| walk_at "fld") => `(tactic| skip)
local macro_rules | `(tactic| walk_at "s") => `(tactic| repeat walk_at "1")
local macro_rules | `(tactic| walk_at "size") => `(tactic| first | exact Nat.le_of_ble_eq_true rfl | (simp only [List.length_map, List.length_append, List.length_cons, List.length_nil]; omega))
local macro_rules | `(tactic| walk_at "new") => `(tactic| (first | refine ⟨(by walk_at "size"), fun p hp => ?_⟩ | refine fun p hp => ?_); (generalize hq : upd _ p _ = H1); (obtain ⟨s, e⟩ := new_facts hp hq); clear hq)

/-- a thing whose address was free in F -/
inductive ElF (F H : Hp) : V → Prop where
  | non : ElF F H .non
  | int (i : Int) : ElF F H (.int i)
  | bl (b : Bool) : ElF F H (.bl b)
  | str (s : Str) : ElF F H (.str s)
  | seq {a : Addr} {xs : List V} (n : F a = none) (h : SqH H a xs) : ElF F H (.ref a)
inductive AnyF (F H : Hp) : V → Prop where
  | non : AnyF F H .non
  | int (i : Int) : AnyF F H (.int i)
  | bl (b : Bool) : AnyF F H (.bl b)
  | str (s : Str) : AnyF F H (.str s)
  | seq {a : Addr} {xs : List V} (n : F a = none) (h : SqH H a xs) (e : ∀ x ∈ xs, ElF F H x) : AnyF F H (.ref a)
theorem ElF.weak {F F' H : Hp} {v : V} (h : ElF F' H v) (w : ∀ a, F' a = none → F a = none) : ElF F H v := by
  cases h with
  | non => exact .non
  | int i => exact .int i
  | bl b => exact .bl b
  | str s => exact .str s
  | seq n h => exact .seq (w _ n) h
theorem ElF.step {F H H' : Hp} {v : V} (h : ElF F H v) (s : ∀ a o, F a = none → H a = some o → H' a = some o) : ElF F H' v := by
  cases h with
  | non => exact .non
  | int i => exact .int i
  | bl b => exact .bl b
  | str x => exact .str x
  | seq n h => exact .seq n (h.imp (s _ _ n) (s _ _ n))
theorem AnyF.weak {F F' H : Hp} {v : V} (h : AnyF F' H v) (w : ∀ a, F' a = none → F a = none) : AnyF F H v := by
  cases h with
  | non => exact .non
  | int i => exact .int i
  | bl b => exact .bl b
  | str s => exact .str s
  | seq n h e => exact .seq (w _ n) h fun x hx => (e x hx).weak w
theorem AnyF.step {F H H' : Hp} {v : V} (h : AnyF F H v) (s : ∀ a o, F a = none → H a = some o → H' a = some o) : AnyF F H' v := by
  cases h with
  | non => exact .non
  | int i => exact .int i
  | bl b => exact .bl b
  | str x => exact .str x
  | seq n h e => exact .seq n (h.imp (s _ _ n) (s _ _ n)) fun x hx => (e x hx).step s
theorem AnyF.el {F H : Hp} {v : V} (h : AnyF F H v) : ElF F H v := by
  cases h with
  | non => exact .non
  | int i => exact .int i
  | bl b => exact .bl b
  | str s => exact .str s
  | seq n h e => exact .seq n h
theorem ElF.at {F H : Hp} {v : V} (h : ElF F H v) : ∃ e, ElAt H v e := by
  cases h with
  | non => exact ⟨_, .non⟩
  | int i => exact ⟨_, .int i⟩
  | bl b => exact ⟨_, .bl b⟩
  | str s => exact ⟨_, .str s⟩
  | seq n h => exact ⟨_, .seq h⟩
theorem els_of {F H : Hp} : ∀ {xs : List V}, (∀ x ∈ xs, ElF F H x) → ∃ es, Els H xs es
  | [], _ => ⟨[], .nil⟩
  | x :: r, h => by
    obtain ⟨e, he⟩ := (h x (List.mem_cons_self)).at
    obtain ⟨es, hes⟩ := els_of (xs := r) fun y hy => h y (List.mem_cons_of_mem _ hy)
    exact ⟨e :: es, .cons he hes⟩
theorem AnyF.arg {F H : Hp} {v : V} (C : Addr) (h : AnyF F H v) : ∃ d, ArgAt C H v d := by
  cases h with
  | non => exact ⟨_, .non⟩
  | int i => exact ⟨_, .int i⟩
  | bl b => exact ⟨_, .bl b⟩
  | str s => exact ⟨_, .str s⟩
  | seq n h e =>
    obtain ⟨es, hes⟩ := els_of e
    exact ⟨_, .seq h hes⟩
/-- what was free is free -/
theorem Bx.free {b : Addr} {H H' : Hp} (s : Bx b H H') (hb : BoxAt H' b) : ∀ a, H' a = none → H a = none := fun a n => by
  cases q : H a with
  | none => rfl
  | some o =>
    by_cases e : a = b
    · subst e
      obtain ⟨_, _, _, _, z⟩ := hb
      rw [n] at z
      cases z
    · have := s _ _ e q
      rw [n] at this
      cases this
section
variable {P : Program} {w : World} {K : PySem.W.Frag} {mg : Str → Option Value} {base : Heap}
theorem Df.never {x : Str} {st : Stmt} {ps : List Str} (D : Df K mg x st ps) (k : Nat) : Own P w K mg base x k ps (fun _ _ _ _ => False) := by
  obtain ⟨f, fd, F, m, b⟩ := D.ex
  exact ⟨f, fd, ⟨fun _ _ _ _ z => z.elim, fun _ _ _ _ _ _ _ _ _ _ _ _ _ z => z.elim⟩, m, F.kp, b⟩
abbrev s_law_any : Stmt := topS 33
theorem sc_law_any : FnScope ["box", "deep", "odd", "some", "turn"] ["box", "deep"] (defScope s_law_any) := ⟨rfl, rfl, rfl, by decide +kernel, rfl, by decide +kernel, by decide +kernel⟩
def spAny (n : Nat) : Sp := fun vs H Q _ => ∃ (b : Addr), vs = [.ref b, .int n] ∧ BoxAt H b ∧ ∀ H' v, Bx b H H' → BoxAt H' b → AnyF H H' v → Q v H'
def spPrev : Nat → Sp
  | 0 => fun _ _ _ _ => False
  | n + 1 => spAny n
set_option maxHeartbeats 8000000 in
theorem any_step {n k : Nat} (hk : 2 ≤ k) (D : Df K mg "_law_any" s_law_any ["box", "deep"]) (T : Txt mg) (o_law_take : Own P w K mg base "_law_take" 1 ["box", "many"] spTake) (o_law_pick : Own P w K mg base "_law_pick" 2 ["box", "some"] spPick)
    (o_law_any : Own P w K mg base "_law_any" k ["box", "deep"] (spPrev n)) : Own P w K mg base "_law_any" (k + 1) ["box", "deep"] (spAny n) := by
  refine D.own sc_law_any (fun vs H Q E h => ?_) (fun fa cdv A outer s H vs Q E hr h => ?_)
  · obtain ⟨_, rfl, _⟩ := h
    rfl
  · obtain ⟨b, rfl, hb, kk⟩ := h
    have hr2 : Room 2 (A.deeper (envOfC "_law_any" (defScope s_law_any) s.heap.objs.size fa cdv)) := hr.mono hk
    refine ⟨_, (pss_cons (ps_set (i := 2) sc_law_any.nd rfl (Or.inl rfl) (pe_lst (pa_cons pe_non (pa_cons pe_bl (pa_cons pe_bl (pa_cons pe_int (pa_cons pe_str (pa_cons pe_str (pa_cons (pe_tup pa_nil) (pa_cons (pe_lst pa_nil) (pa_cons (pe_tup (pa_cons pe_str pa_nil)) (pa_cons (pe_op op_pow pe_int pe_int) pa_nil))))))))))))
  (C8.pss_cut (ps_if (PW.pt (pw_or (pt_cmpR op_eq (pv 1) pe_int (nomark _)) (pw_or1 (pt_cmpR op_gt (pe_own o_law_take (hr2.mono (by decide)) (pa_cons (pv 0) (pa_cons pe_int pa_nil))) pe_int (nomark _)))))
    (pss_one (ps_ret (pe_own o_law_pick (hr2.mono (by decide)) (pa_cons (pv 0) (pa_cons (pv 2) pa_nil)))))
    pss_nil)
  (pss_cons (ps_setLc (i := 3) (own := [("turn", 4)]) (g := gName 4) (tt := tYes) rfl sc_law_any.nd rfl rfl (sw_true rfl rfl rfl (by decide +kernel)) (pi_range1 (by rfl) T.range (pa_cons (pe_own o_law_take (hr2.mono (by decide)) (pa_cons (pv 0) (pa_cons pe_int pa_nil))) pa_nil)) (blkOk_by (own := [("turn", 4)]) (N := ["box", "deep", "odd", "some", "turn"]) (sc := defScope s_law_any) (by decide +kernel)) (fun _ _ _ _ _ => (pg_name (i := 4) sc_law_any.nd rfl (Or.inl rfl))) (fun _ _ _ _ _ => pts_nil) (fun _ _ _ _ _ => (pe_own o_law_any (hr.mono (Nat.le_refl _)) (pa_cons (pv 0) (pa_cons (pe_op op_sub (pv 1) pe_int) pa_nil)))))
  (pss_one (ps_ret (pe_ifExp (pt_cmpR op_eq (pe_own o_law_take (hr2.mono (by decide)) (pa_cons (pv 0) (pa_cons pe_int pa_nil))) pe_int (nomark _)) (pe_callTy call_tuple_of (by rfl) T.tuple (by decide +kernel) (pa_cons (pv 3) pa_nil)) (pv 3))))))), ?_⟩
    have h1000 : 1000 < sizeLine := small1000 (Nat.le_refl _)
    walk_at "s"
    walk_at "new"
    rename_i p1 n1 H1 s1 e1
    have b1 := hb.same s1
    have f1 : H p1 = none := n1
    walk_at "s"
    walk_at "new"
    rename_i p2 n2 H2 s2 e2
    have f2 : H p2 = none := s1.free n2
    walk_at "s"
    walk_at "new"
    rename_i p3 n3 H3 s3 e3
    have f3 : H p3 = none := s1.free (s2.free n3)
    walk_at "s"
    walk_at "new"
    rename_i p4 n4 H4 s4 e4
    have b4 : BoxAt H4 b := ((b1.same s2).same s3).same s4
    have s04 : Same H H4 := s1.trans (s2.trans (s3.trans s4))
    have c1 : H4 p1 = some (.tup []) := s4 _ _ (s3 _ _ (s2 _ _ e1))
    have c2 : H4 p2 = some (.lst []) := s4 _ _ (s3 _ _ e2)
    have c3 : H4 p3 = some (.tup [.str "a"]) := s4 _ _ e3
    have g1 : p1 ≠ b := hb.ne f1
    have g2 : p2 ≠ b := hb.ne f2
    have g3 : p3 ≠ b := hb.ne f3
    have g4 : p4 ≠ b := (((b1.same s2).same s3)).ne n4
    have pick : ∀ (H' : Hp) (σ : L2.St), Bx b H4 H' → BoxAt H' b → spPick [.ref b, .ref p4] H' Q E0 := fun H' σ s5 b5 => by
      refine ⟨b, p4, _, rfl, b5, g4, s5 _ _ g4 e4, (by show 0 < 10; decide), (by show 10 < 1000; decide), fun H'' x hx s6 b6 => ?_⟩
      have s7 := s5.trans s6
      refine kk H'' x ((Bx.of s04).trans s7) b6 ?_
      simp only [List.mem_cons, List.not_mem_nil, or_false] at hx
      rcases hx with rfl | rfl | rfl | rfl | rfl | rfl | rfl | rfl | rfl | rfl
      · exact .non
      · exact .bl _
      · exact .bl _
      · exact .int _
      · exact .str _
      · exact .str _
      · exact .seq f1 (.inr (s7 _ _ g1 c1)) fun x hx => nomatch hx
      · exact .seq f2 (.inl (s7 _ _ g2 c2)) fun x hx => nomatch hx
      · refine .seq f3 (.inr (s7 _ _ g3 c3)) fun x hx => ?_
        rw [List.mem_singleton.mp hx]
        exact .str _
      · exact .int _
    refine ⟨fun σ' H' => (∃ y, σ' = [some (.ref b), some (.int (n : Nat)), some (.ref p4), y, none]) ∧ Bx b H4 H' ∧ BoxAt H' b ∧ n ≠ 0, ?_, ?_⟩
    · walk_at "s"
      refine ite2 (fun c => ?_) (fun c => ?_)
      · walk_at "s"
        exact pick H4 [] (Bx.of (Same.refl _)) b4
      · have hn : n ≠ 0 := fun z => c (decide_eq_true (congrArg V.int (by omega)))
        walk_at "s"
        refine ⟨by decide, b4, fun H5 m5 hm5 s5 b5 => ?_⟩
        walk_at "s"
        refine ite2 (fun c => ?_) (fun c => ?_)
        · walk_at "s"
          exact pick H5 [] s5 b5
        · exact ⟨⟨_, rfl⟩, s5, b5, hn⟩
    · rintro σ' H5 ⟨⟨y, rfl⟩, s5, b5, hn⟩
      obtain ⟨n', rfl⟩ : ∃ n', n = n' + 1 := ⟨n - 1, by omega⟩
      walk_at "s"
      refine ⟨by decide, b5, fun H6 m6 hm6 s6 b6 => ?_⟩
      have hm6' : m6 < 4 := hm6
      have S6 : Bx b H H6 := (Bx.of s04).trans (s5.trans s6)
      walk_at "s"
      refine ⟨by omega, by omega, fun L nL => ?_⟩
      have gL : L ≠ b := b6.ne nL
      have fL : H L = none := S6.free b6 _ nL
      generalize hq : upd H6 L (.lst []) = HL
      obtain ⟨sL, eL⟩ := new_facts nL hq
      have bL : BoxAt HL b := b6.same sL
      subst hq
      refine lc_range (lo := 0) (n := m6) (fun i H' => Bx b H6 H' ∧ BoxAt H' b ∧ (∀ a, H' a = none → (upd H6 L (.lst [])) a = none) ∧ ∃ xs, H' L = some (.lst xs) ∧ xs.length = i ∧ ∀ x ∈ xs, ElF (upd H6 L (.lst [])) H' x) ⟨Bx.of sL, bL, fun _ z => z, [], eL, rfl, fun x hx => nomatch hx⟩ ?_ ?_
      · rintro i H' hi ⟨S', b', fr', xs, eX, hlen, hel⟩
        walk_at "s"
        refine ⟨b, (by show [V.ref b, V.int (((n' + 1 : Nat) : Int) - 1)] = [V.ref b, V.int (n' : Nat)]; rw [show ((n' + 1 : Nat) : Int) - 1 = (n' : Nat) by omega]), b', fun H'' v s'' b'' hv => ?_⟩
        have eX' := s'' _ _ gL eX
        have old : ∀ a o, (upd H6 L (.lst [])) a = none → H' a = some o → (upd H'' L (.lst (xs ++ [v]))) a = some o := fun a o na ea => by
          have na1 : a ≠ L := fun z => by
            rw [z, upd_same] at na
            cases na
          rw [upd_ne na1]
          exact s'' _ _ (bL.ne na) ea
        have new : ElF H' (upd H'' L (.lst (xs ++ [v]))) v := hv.el.step fun a o na ea => by
          have na1 : a ≠ L := fun z => by
            rw [z, eX] at na
            cases na
          rw [upd_ne na1]
          exact ea
        refine ⟨xs, eX', by omega, ?_, ?_, ?_, xs ++ [v], upd_same, by rw [List.length_append, hlen]; rfl, fun x hx => ?_⟩
        · intro c o nc ec
          have ncL : c ≠ L := ne_of_none ec nL
          rw [upd_ne ncL]
          exact s'' _ _ nc (S' _ _ nc ec)
        · obtain ⟨x, y, z, x0, hb⟩ := b''
          exact ⟨x, y, z, x0, by rw [upd_ne gL.symm]; exact hb⟩
        · intro a na
          have naL : a ≠ L := fun z => by
            rw [z, upd_same] at na
            cases na
          rw [upd_ne naL] at na
          exact fr' _ (s''.free b'' _ na)
        · rcases List.mem_append.mp hx with hx | hx
          · exact (hel x hx).step old
          · rw [List.mem_singleton.mp hx]
            exact new.weak fr'
      · rintro H' ⟨S', b', fr', xs, eX, hlen, hel⟩
        have wk : ∀ a, (upd H6 L (.lst [])) a = none → H a = none := fun a na => S6.free b6 _ (sL.free na)
        walk_at "s"
        refine ⟨by decide, b', fun H7 m7 hm7 s7 b7 => ?_⟩
        have S7 : Bx b H H7 := S6.trans (S'.trans s7)
        have eX7 := s7 _ _ gL eX
        have el7 : ∀ x ∈ xs, ElF (upd H6 L (.lst [])) H7 x := fun x hx => (hel x hx).step fun a o na ea => s7 _ _ (bL.ne na) ea
        walk_at "s"
        refine ite2 (fun c => ?_) (fun c => ?_)
        · walk_at "s"
          walk_at "new"
          rename_i p8 n8 H8 s8 e8
          refine kk H8 _ (S7.trans (Bx.of s8)) (b7.same s8) (.seq (S7.free b7 _ n8) (.inr e8) fun x hx => ((el7 x hx).weak wk).step fun a o _ ea => s8 _ _ ea)
        · walk_at "s"
          exact kk H7 _ S7 b7 (.seq fL (.inl eX7) fun x hx => (el7 x hx).weak wk)
theorem ok_any (D : Df K mg "_law_any" s_law_any ["box", "deep"]) (T : Txt mg) (o_law_take : Own P w K mg base "_law_take" 1 ["box", "many"] spTake) (o_law_pick : Own P w K mg base "_law_pick" 2 ["box", "some"] spPick) :
    ∀ n, Own P w K mg base "_law_any" (n + 3) ["box", "deep"] (spAny n)
  | 0 => any_step (by decide) D T o_law_take o_law_pick (D.never 2)
  | n + 1 => any_step (by omega) D T o_law_take o_law_pick (ok_any D T o_law_take o_law_pick n)
end
end My

namespace My
open PySem PySem.Spec PyProof.Rows L2
/-! ## what is refused -/
theorem rises_app_false {ys : List El} (h : ∀ l, risesFrom l ys = false) : ∀ (xs : List El) (l : Option Int), risesFrom l (xs ++ ys) = false
  | [], l => h l
  | none :: xs, none => rfl
  | none :: xs, some _ => rfl
  | some t :: xs, none => rises_app_false h xs t
  | some none :: xs, some l => rfl
  | some (some x) :: xs, some l => by
    show (if x < l then false else risesFrom (some x) (xs ++ ys)) = false
    rw [rises_app_false h xs (some x)]
    exact ite_self _
theorem falls (x y : Int) (h : y < x) (r : List El) (l : Option Int) : risesFrom l (some (some x) :: some (some y) :: r) = false := by
  have e : risesFrom (some x) (some (some y) :: r) = false := if_pos h
  cases l with
  | none => exact e
  | some l =>
    show (if x < l then false else risesFrom (some x) (some (some y) :: r)) = false
    rw [e]
    exact ite_self _
theorem sinks (x : Int) (r : List El) (l : Option Int) : risesFrom l (some (some x) :: some none :: r) = false := by
  cases l with
  | none => rfl
  | some l =>
    show (if x < l then false else false) = false
    exact ite_self _
theorem rises_ints : ∀ (xs : List Int) (l : Int), (∀ x ∈ xs, l ≤ x) → xs.Pairwise (· ≤ ·) → risesFrom (some l) ((xs.map some).map some) = true
  | [], _, _, _ => rfl
  | x :: r, l, h, p => by
    obtain ⟨p1, p2⟩ := List.pairwise_cons.mp p
    have c : ¬ x < l := by
      have := h x (List.mem_cons_self)
      omega
    show (if x < l then false else risesFrom (some x) ((r.map some).map some)) = true
    rw [if_neg c]
    exact rises_ints r x p1 p2
theorem rises_ints0 (xs : List Int) (p : xs.Pairwise (· ≤ ·)) : risesFrom none ((xs.map some).map some) = true := by
  cases xs with
  | nil => rfl
  | cons x r =>
    obtain ⟨p1, p2⟩ := List.pairwise_cons.mp p
    exact rises_ints r x p1 p2
theorem rises_nones (n : Nat) (es : List El) : risesFrom none (List.replicate n (some none) ++ es) = risesFrom none es := by
  induction n with
  | zero => rfl
  | succ n ih => exact ih
/-- what is asked of a drawn row's parts -/
structure RS (f a : List (Option Int)) (m lo hi : Int) : Prop where
  rf : risesFrom none (f.map some) = true
  rf1 : risesFrom none ((f ++ [some (lo + 1)]).map some) = true
  ra : risesFrom none (a.map some) = true
  ha : a.head? = some (some lo)
  hl : a.getLast? = some (some hi)
  fl : ∀ e, f.getLast?.join = some e → e ≤ lo
  lh : lo ≤ hi
  hm : hi - lo ≤ m
  m0 : 0 ≤ m
  m1 : m ≤ 1000
  lf : f.length ≤ 10
  la : a.length ≤ 10
theorem RS.ne {f a : List (Option Int)} {m lo hi : Int} (R : RS f a m lo hi) : a ≠ [] := fun z => by
  have := R.ha
  rw [z] at this
  cases this
theorem Shape.rs {f a : List (Option Int)} {m : Int} (S : Shape f a m) : ∃ lo hi, RS f a m lo hi := by
  obtain ⟨nn, fl, al, lo, hi, rfl, rfl, asc, hlo, hhi, h1, h2, h3, h4, h5, h6⟩ := S.ex
  obtain ⟨pf, pa, px⟩ := List.pairwise_append.mp asc
  have mlo : lo ∈ al := List.mem_of_mem_head? hlo
  have mhi : hi ∈ al := List.mem_of_getLast? hhi
  have hle : lo ≤ hi := by
    cases al with
    | nil => cases hlo
    | cons x r =>
      have : x = lo := Option.some.inj hlo
      subst this
      rcases List.mem_cons.mp mhi with z | z
      · omega
      · exact (List.pairwise_cons.mp pa).1 _ z
  have mr : ∀ xs : List (Option Int), (List.replicate nn none ++ xs).map some = List.replicate nn (some none) ++ xs.map some := fun xs => by
    rw [List.map_append, List.map_replicate]
  have b1 := h6 lo (List.mem_append_right _ mlo)
  have b2 := h6 hi (List.mem_append_right _ mhi)
  refine ⟨lo, hi, ?_, ?_, rises_ints0 al pa, by rw [List.head?_map, hlo]; rfl, by rw [List.getLast?_map, hhi]; rfl, fun e he => ?_, hle, h1, by omega, by omega, ?_, ?_⟩
  · rw [mr, rises_nones]
    exact rises_ints0 fl pf
  · rw [List.append_assoc, mr, rises_nones, show [some (lo + 1)] = [lo + 1].map some from rfl, ← List.map_append]
    refine rises_ints0 _ (List.pairwise_append.mpr ⟨pf, List.pairwise_singleton _ _, fun x hx y hy => ?_⟩)
    rw [List.mem_singleton.mp hy]
    have := px x hx lo mlo
    omega
  · cases q : fl.getLast? with
    | none =>
      rw [List.getLast?_eq_none_iff.mp q, List.map_nil, List.append_nil] at he
      cases nn with
      | zero => cases he
      | succ n =>
        rw [List.getLast?_replicate] at he
        simp at he
    | some y =>
      have q' : (List.replicate nn none ++ fl.map some).getLast? = some (some y) := by
        rw [List.getLast?_append, List.getLast?_map, q]
        rfl
      rw [q'] at he
      have : y = e := Option.some.inj he
      subst this
      exact px y (List.mem_of_getLast? q) lo mlo
  · rw [List.length_append, List.length_replicate, List.length_map]
    omega
  · rw [List.length_map]
    omega
/-! ### the word -/
theorem map_some_getD (f : List (Option Int)) : (f.map some).map (·.getD none) = f := by
  rw [List.map_map]
  exact (List.map_congr_left fun x _ => rfl).trans (List.map_id f)
theorem riseO_of {f : List (Option Int)} (h : risesFrom none (f.map some) = true) : riseO (f.map some) = some f := by
  unfold riseO
  rw [if_pos h, map_some_getD]
theorem riseO_no {es : List El} (h : risesFrom none es = false) : riseO es = none := if_neg (by rw [h]; exact Bool.false_ne_true)
theorem word_first {es : List El} (h : risesFrom none es = false) (a : Arg) (m : El) : wordA (some es) a m = some wF := by
  show (match riseO es with | none => some wF | some f => _) = _
  rw [riseO_no h]
theorem word_first0 (a : Arg) (m : El) : wordA none a m = some wF := rfl
theorem word_again {f : List (Option Int)} {as : List El} (h : risesFrom none (f.map some) = true) (h' : risesFrom none as = false) (m : El) : wordA (some (f.map some)) (some as) m = some wA := by
  show (match riseO (f.map some) with | none => some wF | some f => match riseO as with | none => some wA | some a => _) = _
  rw [riseO_of h, riseO_no h']
theorem word_again0 {f : List (Option Int)} (h : risesFrom none (f.map some) = true) (m : El) : wordA (some (f.map some)) none m = some wA := by
  show (match riseO (f.map some) with | none => some wF | some f => _) = _
  rw [riseO_of h]
  rfl
theorem word_again1 {f : List (Option Int)} (h : risesFrom none (f.map some) = true) (m : El) : wordA (some (f.map some)) (some []) m = some wA := by
  show (match riseO (f.map some) with | none => some wF | some f => _) = _
  rw [riseO_of h]
  exact if_pos rfl
theorem word_is {f a : List (Option Int)} (h : risesFrom none (f.map some) = true) (h' : risesFrom none (a.map some) = true) (n : a ≠ []) (m : El) : wordA (some (f.map some)) (some (a.map some)) m = wordB f a m := by
  show (match riseO (f.map some) with | none => some wF | some f => match riseO (a.map some) with | none => some wA | some a => _) = _
  rw [riseO_of h, riseO_of h']
  exact if_neg n
open Classical in
theorem wordB_lo {f a : List (Option Int)} {lo : Int} (h : a.head? = some (some lo)) (m : El) : wordB f a m = if (∃ e, f.getLast?.join = some e ∧ lo < e) then some wA else if (∃ k, m = some (some k) ∧ 0 ≤ k ∧ (a.getLast?.join).getD 0 - lo ≤ k) then none else some wM := by
  unfold wordB
  rw [h]
  rfl
open Classical in
theorem wordB_non {f a : List (Option Int)} (h : a.head? = some none) (m : El) : wordB f a m = if a.getLast?.join ≠ none ∨ f.getLast?.join ≠ none then some wA else if m = some (some 0) then none else some wM := by
  unfold wordB
  rw [h]
  rfl
section
variable {f a : List (Option Int)} {m lo hi : Int}
theorem RS.w_more (R : RS f a m lo hi) {e : El} (h : ∀ k, e = some (some k) → ¬ hi - lo ≤ k) : wordA (some (f.map some)) (some (a.map some)) e = some wM := by
  rw [word_is R.rf R.ra R.ne, wordB_lo R.ha, if_neg (fun ⟨e, h1, h2⟩ => by have := R.fl e h1; omega), if_neg (fun ⟨k, h1, _, h3⟩ => h k h1 (by rw [R.hl] at h3; exact h3))]
theorem RS.w_ok (R : RS f a m lo hi) : wordA (some (f.map some)) (some (a.map some)) (some (some m)) = none := by
  rw [word_is R.rf R.ra R.ne, wordB_lo R.ha, if_neg (fun ⟨e, h1, h2⟩ => by have := R.fl e h1; omega), if_pos ⟨m, rfl, R.m0, by rw [R.hl]; exact R.hm⟩]
theorem RS.w1 (_ : RS f a m lo hi) {x y : Int} (h : y < x) (b : Arg) (e : El) : wordA (some ((f ++ [some x, some y]).map some)) b e = some wF := by
  refine word_first ?_ b e
  rw [List.map_append]
  exact rises_app_false (falls x y h []) _ _
theorem RS.w2 (_ : RS f a m lo hi) (x : Int) (b : Arg) (e : El) : wordA (some ((f ++ [some x, none]).map some)) b e = some wF := by
  refine word_first ?_ b e
  rw [List.map_append]
  exact rises_app_false (sinks x []) _ _
theorem RS.w6 (R : RS f a m lo hi) (e : El) : wordA (some ((f ++ [some (lo + 1)]).map some)) (some (a.map some)) e = some wA := by
  rw [word_is R.rf1 R.ra R.ne, wordB_lo R.ha, if_pos ⟨lo + 1, by rw [List.getLast?_append]; rfl, by omega⟩]
theorem RS.last (R : RS f a m lo hi) : ∃ r, a = r ++ [some hi] := List.getLast?_eq_some_iff.mp R.hl
theorem RS.w9 (R : RS f a m lo hi) {x : Int} (h : x < lo) (e : El) : wordA (some (f.map some)) (some ((a ++ [some x]).map some)) e = some wA := by
  refine word_again R.rf ?_ e
  obtain ⟨r, hr⟩ := R.last
  rw [hr, List.append_assoc, List.map_append]
  have := R.lh
  exact rises_app_false (falls hi x (by omega) []) _ _
theorem RS.w10 (R : RS f a m lo hi) (e : El) : wordA (some (f.map some)) (some ((a ++ [none]).map some)) e = some wA := by
  refine word_again R.rf ?_ e
  obtain ⟨r, hr⟩ := R.last
  rw [hr, List.append_assoc, List.map_append]
  exact rises_app_false (sinks hi []) _ _
end
theorem w11 : wordA (some [some (some 0)]) (some [some none]) (some (some 0)) = some wA := by
  refine (word_is (f := [some 0]) (a := [none]) rfl rfl (List.cons_ne_nil _ _) (some (some 0))).trans ?_
  rw [wordB_non rfl, if_pos (Or.inr (by simp))]
theorem w12 : wordA (some []) (some [some none, some (some 0)]) (some (some 0)) = some wA := by
  refine (word_is (f := []) (a := [none, some 0]) rfl rfl (List.cons_ne_nil _ _) (some (some 0))).trans ?_
  rw [wordB_non rfl, if_pos (Or.inl (by simp))]
theorem w13 (m : El) : wordA (some []) (some [none, some (some 2)]) m = some wA := word_again (f := []) rfl rfl m
theorem w18 : wordA (some []) (some [some none]) (some (some 1)) = some wM := by
  refine (word_is (f := []) (a := [none]) rfl rfl (List.cons_ne_nil _ _) (some (some 1))).trans ?_
  rw [wordB_non rfl, if_neg (by simp), if_neg (by simp)]
/-- whatever is told first, the second is no row of things -/
theorem w_any (d : Arg) (m : El) : wordA d none m = some wF ∨ wordA d none m = some wA := by
  show (match d.bind riseO with | none => some wF | some f => _) = some wF ∨ (match d.bind riseO with | none => some wF | some f => _) = some wA
  cases d.bind riseO with
  | none => exact .inl rfl
  | some f => exact .inr rfl
theorem w_pair (e : El) (a : Arg) (m : El) : wordA (some [e, none]) a m = some wF := by
  refine word_first ?_ a m
  cases e with
  | none => rfl
  | some t => cases t <;> rfl
theorem w_zero {e : El} (h : ∀ k, e = some (some k) → k < 0) : wordA (some []) (some [some (some 0)]) e = some wM := by
  refine (word_is (f := []) (a := [some 0]) rfl rfl (List.cons_ne_nil _ _) e).trans ?_
  rw [wordB_lo rfl, if_neg (fun ⟨e, h1, _⟩ => nomatch h1), if_neg (fun ⟨k, h1, h2, _⟩ => by have := h k h1; omega)]
theorem rises_rep (n : Nat) : risesFrom none ((List.replicate n none).map some) = true := by
  rw [List.map_replicate]
  have := rises_nones n []
  rw [List.append_nil] at this
  exact this
theorem last_rep (n : Nat) : (List.replicate n (none : Option Int)).getLast?.join = none := by
  rw [List.getLast?_replicate]
  split <;> rfl
theorem w_nothing (n k : Nat) : wordA (some ((List.replicate n none).map some)) (some ((List.replicate (k + 1) none).map some)) (some (some 0)) = none := by
  rw [word_is (rises_rep n) (rises_rep (k + 1)) (fun z => nomatch z), wordB_non rfl, if_neg (by rw [last_rep, last_rep]; simp), if_pos rfl]
theorem w_null : wordA (some (([] : List (Option Int)).map some)) (some (([some 0] : List (Option Int)).map some)) (some (some 0)) = none := by
  refine (word_is (f := []) (a := [some 0]) rfl rfl (List.cons_ne_nil _ _) (some (some 0))).trans ?_
  rw [wordB_lo rfl, if_neg (fun ⟨e, h1, _⟩ => nomatch h1), if_pos ⟨0, rfl, Int.le_refl _, by decide⟩]
end My

set_option linter.all false
namespace My
open PySem PySem.Spec PyProof.Rows L2
local macro_rules | `(tactic| walk_at "side") => `(tactic| first | (dsimp only; omega) | exact ⟨by omega, by omega⟩ | exact Or.inl ⟨by omega, by omega⟩ | exact Or.inr ⟨by omega, by omega⟩ | decide)
local macro_rules | `(tactic| walk_at "sq") => `(tactic| first | assumption | exact SqL.of (by assumption) | exact SqT.of (by assumption) | (refine L2.Same.seq (by assumption) ?_; walk_at "sq") | (refine L2.Same.seqT (by assumption) ?_; walk_at "sq") | exact Or.inl (by walk_at "sq") | exact Or.inr (by walk_at "sq"))
local macro_rules | `(tactic| walk_at "1") => `(tactic| first
  | refine ⟨_, rfl, iteT ?_⟩
  | refine ⟨_, rfl, iteF ?_⟩
  | refine ⟨_, rfl, ?_⟩
  | refine ⟨_, _, rfl, rfl, (by walk_at "side"), ?_⟩
  | refine ⟨_, _, rfl, rfl, ?_⟩
  | refine ⟨_, _, _, _, true, rfl, .ty _, .base (.int _), kit_ty (a := "int") (by decide +kernel), ?_⟩
  | refine ⟨_, _, _, _, false, rfl, .ty _, .base (.int _), kit_ty (a := "int") (by decide +kernel), ?_⟩
  | refine ⟨_, _, rfl, (by walk_at "sq"), ?_⟩
  | refine ⟨_, _, _, _, rfl, rfl, (by walk_at "sq"), (by first | rfl | assumption), ?_⟩
  | refine Or.inl ⟨_, _, _, _, rfl, rfl, (by walk_at "sq"), (by first | rfl | assumption), ?_⟩
  | refine Or.inr (Or.inl ⟨_, _, _, _, rfl, rfl, (by walk_at "sq"), (by first | rfl | assumption), ?_⟩)
  | refine ⟨_, _, rfl, Or.inl ⟨(by walk_at "sq"), ?_⟩⟩
  | refine ⟨rfl, ?_⟩
  | refine iteT ?_
  | refine iteF ?_
  | refine ⟨_, _, _, _, _, rfl, (by assumption), (by assumption), (by assumption), (by assumption), ?_⟩
  | refine ⟨_, _, _, rfl, (by assumption), rfl, ?_⟩
  | refine Or.inl ⟨_, rfl, ?_⟩
  | refine Or.inr ⟨_, rfl, ?_⟩
  | refine ⟨_, _, rfl, (by walk_at "side"), ?_⟩
  | refine ⟨_, _, rfl, ?_⟩)
local macro_rules | `(tactic| walk_at "fld") => `(tactic| skip)
local macro_rules | `(tactic| walk_at "s") => `(tactic| repeat walk_at "1")
local macro_rules | `(tactic| walk_at "size") => `(tactic| first | exact Nat.le_of_ble_eq_true rfl | (simp only [List.length_map, List.length_append, List.length_cons, List.length_nil]; omega))
local macro_rules | `(tactic| walk_at "new") => `(tactic| (first | refine ⟨(by walk_at "size"), fun p hp => ?_⟩ | refine fun p hp => ?_); (generalize hq : upd _ p _ = H1); (obtain ⟨s, e⟩ := new_facts hp hq); clear hq)

theorem HArg.same {C : Addr} {H H' : Hp} {v1 v2 v3 : V} {o : Option Str} (h : HArg C H v1 v2 v3 o) (s : Same H H') : HArg C H' v1 v2 v3 o := by
  rcases h with ⟨f, a, m, w', hF, hA, hM, ew, eo⟩ | ⟨aF, aA, f, a, m, e1, e2, e3, hF, hA, r⟩
  · exact .inl ⟨f, a, m, w', hF.same s, hA.same s, hM.same s, ew, eo⟩
  · exact .inr ⟨aF, aA, f, a, m, e1, e2, e3, s.sqh hF, s.sqh hA, r⟩
/-- a tuple of a word and three arguments of which it is told -/
def GoodT (C : Addr) (H : Hp) (v : V) : Prop := ∃ (p : Addr) (w : Str) (v1 v2 v3 : V), v = .ref p ∧ H p = some (.tup [.str w, v1, v2, v3]) ∧ HArg C H v1 v2 v3 (some w)
theorem GoodT.same {C : Addr} {H H' : Hp} {v : V} (h : GoodT C H v) (s : Same H H') : GoodT C H' v := by
  obtain ⟨p, w, v1, v2, v3, e, h1, h2⟩ := h
  exact ⟨p, w, v1, v2, v3, e, s _ _ h1, h2.same s⟩
theorem good {C : Addr} {H : Hp} {p : Addr} {w : Str} {v1 v2 v3 : V} {f a : Arg} {m : El} (h : H p = some (.tup [.str w, v1, v2, v3])) (hF : ArgAt C H v1 f) (hA : ArgAt C H v2 a) (hM : ElAt H v3 m) (e : wordA f a m = some w) : GoodT C H (.ref p) :=
  ⟨p, w, v1, v2, v3, rfl, h, .inl ⟨f, a, m, w, hF, hA, hM, e, rfl⟩⟩
def WAt (C : Addr) (H : Hp) (L : Addr) (n : Nat) : Prop := ∃ xs, H L = some (.lst xs) ∧ xs.length ≤ n ∧ ∀ x ∈ xs, GoodT C H x
theorem listArg {C : Addr} {H : Hp} {p : Addr} {xs : List (Option Int)} (h : H p = some (.lst (xs.map ov))) : ArgAt C H (.ref p) (some (xs.map some)) := .seq (.inl h) (els_ov H xs)
/-- what the row as told is, in a heap -/
structure Parts3 (H : Hp) (pF pA : Addr) (f a : List (Option Int)) : Prop where
  hf : H pF = some (.lst (f.map ov))
  ha : H pA = some (.lst (a.map ov))
theorem Parts3.same {H H' : Hp} {pF pA : Addr} {f a : List (Option Int)} (h : Parts3 H pF pA f a) (s : Same H H') : Parts3 H' pF pA f a := ⟨s _ _ h.hf, s _ _ h.ha⟩
section
variable {P : Program} {w : World} {K : PySem.W.Frag} {mg : Str → Option Value} {base : Heap} {C : Addr}
abbrev s_law_bent_right : Stmt := topS 35
theorem sc_law_bent_right : FnScope ["box", "told", "first", "again", "more", "low", "wrong", "word", "one", "two", "three"] ["box", "told"] (defScope s_law_bent_right) := ⟨rfl, rfl, rfl, by decide +kernel, rfl, by decide +kernel, by decide +kernel⟩
def spBent : Sp := fun vs H Q _ => ∃ (b p : Addr) (f a : List (Option Int)) (m : Int), vs = [.ref b, .ref p] ∧ BoxAt H b ∧ ToldB b H p f a m ∧ Shape f a m ∧ ∀ H', Bx b H H' → BoxAt H' b → Q (.bl true) H'
set_option maxHeartbeats 16000000 in
theorem ok_bent (D : Df K mg "_law_bent_right" s_law_bent_right ["box", "told"]) (T : Txt mg) (o_law_take : Own P w K mg base "_law_take" 1 ["box", "many"] spTake) (o_law_heard : Own P w K mg base "_law_heard" 6 ["first", "again", "more"] (spHeard C)) :
    Own P w K mg base "_law_bent_right" 7 ["box", "told"] spBent := by
  refine D.own sc_law_bent_right (fun vs H Q E h => ?_) (fun fa cdv A outer s H vs Q E hr h => ?_)
  · obtain ⟨_, _, _, _, _, rfl, _⟩ := h
    rfl
  · obtain ⟨b, p, f, a, m, rfl, hb, ⟨pF, pA, npb, nfb, nab, h1, h2, h3⟩, S, k⟩ := h
    obtain ⟨lo, hi, R⟩ := S.rs
    have a0 : atI (a.map ov) 0 = some (.int lo) := atI_head (by rw [head_map, R.ha]; rfl)
    have a1 : atI (a.map ov) (-1) = some (.int hi) := atI_neg1 (by rw [last_map, R.hl]; rfl)
    have lf := R.lf
    have la := R.la
    have h1000 : 1000 < sizeLine := small1000 (Nat.le_refl _)
    have sl : ∀ (xs ys : List (Option Int)) (us vs : List V), us = xs.map ov → vs = ys.map ov → us ++ vs = (xs ++ ys).map ov := fun xs ys us vs e1 e2 => by rw [e1, e2, List.map_append]
    refine ⟨_, (pss_cons (ps_asg (pv 1) (pg_tup (by rfl) (pgs_cons (pg_name (i := 2) sc_law_bent_right.nd rfl (Or.inl rfl)) (pgs_cons (pg_name (i := 3) sc_law_bent_right.nd rfl (Or.inl rfl)) (pgs_cons (pg_name (i := 4) sc_law_bent_right.nd rfl (Or.inl rfl)) pgs_nil)))))
  (C8.pss_cut (ps_set (i := 5) sc_law_bent_right.nd rfl (Or.inl rfl) (pe_op op_sub (pe_op op_sub (pe_ix ix_list (pv 3) pe_int (fun _ _ => rfl)) pe_int) (pe_own o_law_take (hr.mono (by decide)) (pa_cons (pv 0) (pa_cons pe_int pa_nil)))))
  (C8.pss_cut (ps_set (i := 6) sc_law_bent_right.nd rfl (Or.inl rfl) (pe_lst (pa_cons (pe_tup (pa_cons pe_str (pa_cons (pe_op op_cat (pv 2) (pe_lst (pa_cons (pe_ix ix_list (pv 3) pe_int (fun _ _ => rfl)) (pa_cons (pv 5) pa_nil)))) (pa_cons (pv 3) (pa_cons (pv 4) pa_nil))))) (pa_cons (pe_tup (pa_cons pe_str (pa_cons (pe_op op_cat (pv 2) (pe_lst (pa_cons pe_int (pa_cons pe_non pa_nil)))) (pa_cons (pv 3) (pa_cons (pv 4) pa_nil))))) pa_nil))))
  (C8.pss_cut (ps_set (i := 6) sc_law_bent_right.nd rfl (Or.inl rfl) (pe_op op_cat (pv 6) (pe_lst (pa_cons (pe_tup (pa_cons pe_str (pa_cons (pe_op op_cat (pe_lst (pa_cons pe_bl pa_nil)) (pv 2)) (pa_cons (pv 3) (pa_cons (pv 4) pa_nil))))) (pa_cons (pe_tup (pa_cons pe_str (pa_cons pe_str (pa_cons (pv 3) (pa_cons (pv 4) pa_nil))))) (pa_cons (pe_tup (pa_cons pe_str (pa_cons pe_non (pa_cons (pv 3) (pa_cons (pv 4) pa_nil))))) pa_nil))))))
  (C8.pss_cut (ps_set (i := 6) sc_law_bent_right.nd rfl (Or.inl rfl) (pe_op op_cat (pv 6) (pe_lst (pa_cons (pe_tup (pa_cons pe_str (pa_cons (pe_op op_cat (pv 2) (pe_lst (pa_cons (pe_op op_add (pe_ix ix_list (pv 3) pe_int (fun _ _ => rfl)) pe_int) pa_nil))) (pa_cons (pv 3) (pa_cons (pv 4) pa_nil))))) (pa_cons (pe_tup (pa_cons pe_str (pa_cons (pv 2) (pa_cons (pe_lst pa_nil) (pa_cons (pv 4) pa_nil))))) pa_nil)))))
  (C8.pss_cut (ps_set (i := 6) sc_law_bent_right.nd rfl (Or.inl rfl) (pe_op op_cat (pv 6) (pe_lst (pa_cons (pe_tup (pa_cons pe_str (pa_cons (pv 2) (pa_cons pe_non (pa_cons (pv 4) pa_nil))))) pa_nil))))
  (C8.pss_cut (ps_set (i := 6) sc_law_bent_right.nd rfl (Or.inl rfl) (pe_op op_cat (pv 6) (pe_lst (pa_cons (pe_tup (pa_cons pe_str (pa_cons (pv 2) (pa_cons (pe_op op_cat (pv 3) (pe_lst (pa_cons (pv 5) pa_nil))) (pa_cons (pv 4) pa_nil))))) (pa_cons (pe_tup (pa_cons pe_str (pa_cons (pv 2) (pa_cons (pe_op op_cat (pv 3) (pe_lst (pa_cons pe_non pa_nil))) (pa_cons (pv 4) pa_nil))))) pa_nil)))))
  (C8.pss_cut (ps_set (i := 6) sc_law_bent_right.nd rfl (Or.inl rfl) (pe_op op_cat (pv 6) (pe_lst (pa_cons (pe_tup (pa_cons pe_str (pa_cons (pe_lst (pa_cons pe_int pa_nil)) (pa_cons (pe_lst (pa_cons pe_non pa_nil)) (pa_cons pe_int pa_nil))))) (pa_cons (pe_tup (pa_cons pe_str (pa_cons (pe_lst pa_nil) (pa_cons (pe_lst (pa_cons pe_non (pa_cons pe_int pa_nil))) (pa_cons pe_int pa_nil))))) (pa_cons (pe_tup (pa_cons pe_str (pa_cons (pe_lst pa_nil) (pa_cons (pe_lst (pa_cons pe_bl (pa_cons pe_int pa_nil))) (pa_cons pe_int pa_nil))))) pa_nil))))))
  (C8.pss_cut (ps_set (i := 6) sc_law_bent_right.nd rfl (Or.inl rfl) (pe_op op_cat (pv 6) (pe_lst (pa_cons (pe_tup (pa_cons pe_str (pa_cons (pv 2) (pa_cons (pv 3) (pa_cons (pe_op op_sub (pe_op op_sub (pe_ix ix_list (pv 3) (pe_un un_neg pe_int) (fun _ _ => rfl)) (pe_ix ix_list (pv 3) pe_int (fun _ _ => rfl))) pe_int) pa_nil))))) (pa_cons (pe_tup (pa_cons pe_str (pa_cons (pv 2) (pa_cons (pv 3) (pa_cons pe_non pa_nil))))) pa_nil)))))
  (C8.pss_cut (ps_set (i := 6) sc_law_bent_right.nd rfl (Or.inl rfl) (pe_op op_cat (pv 6) (pe_lst (pa_cons (pe_tup (pa_cons pe_str (pa_cons (pv 2) (pa_cons (pv 3) (pa_cons pe_bl pa_nil))))) (pa_cons (pe_tup (pa_cons pe_str (pa_cons (pv 2) (pa_cons (pv 3) (pa_cons pe_str pa_nil))))) (pa_cons (pe_tup (pa_cons pe_str (pa_cons (pe_lst pa_nil) (pa_cons (pe_lst (pa_cons pe_non pa_nil)) (pa_cons pe_int pa_nil))))) pa_nil))))))
  (pss_cons (ps_for PassesOwn.never rfl (pi_list (pv 6)) (pg_tup (by rfl) (pgs_cons (pg_name (i := 7) sc_law_bent_right.nd rfl (Or.inl rfl)) (pgs_cons (pg_name (i := 8) sc_law_bent_right.nd rfl (Or.inl rfl)) (pgs_cons (pg_name (i := 9) sc_law_bent_right.nd rfl (Or.inl rfl)) (pgs_cons (pg_name (i := 10) sc_law_bent_right.nd rfl (Or.inl rfl)) pgs_nil)))))
    (pss_one (ps_if (pt_cmpR op_ne (pe_own o_law_heard (hr.mono (by decide)) (pa_cons (pv 8) (pa_cons (pv 9) (pa_cons (pv 10) pa_nil)))) (pv 7) (nomark _))
        (pss_one (ps_ret pe_bl))
        pss_nil)))
  (pss_one (ps_ret pe_bl))))))))))))), ?_⟩
    walk_at "s"
    refine ⟨fun σ' H' => ∃ lw : Int, lw < lo ∧ σ' = [some (.ref b), some (.ref p), some (.ref pF), some (.ref pA), some (.int m), some (.int lw), none, none, none, none, none] ∧ Bx b H H' ∧ BoxAt H' b ∧ Parts3 H' pF pA f a, ?_, ?_⟩
    · walk_at "s"
      refine ⟨by decide, hb, fun H1 n1 hn1 s1 b1 => ?_⟩
      walk_at "s"
      exact ⟨lo - 1 - n1, by omega, rfl, s1, b1, s1 _ _ nfb h2, s1 _ _ nab h3⟩
    rintro σ' H1 ⟨lw, hlw, rfl, s1, b1, P1⟩
    refine ⟨fun σ' H' => ∃ L, σ' = [some (.ref b), some (.ref p), some (.ref pF), some (.ref pA), some (.int m), some (.int lw), some (.ref L), none, none, none, none] ∧ Same H1 H' ∧ WAt C H' L 2, ?_, ?_⟩
    · have PB := P1
      have S1 := Same.refl H1
      have P1 := PB
      have hf1 := PB.hf
      have ha1 := PB.ha
      walk_at "s"
      walk_at "new"
      rename_i q2 nn2 G2 s2 e_x0_2
      have P2 := P1.same s2
      have hf2 := P2.hf
      have ha2 := P2.ha
      have S2 := S1.trans s2
      clear hf1 ha1 
      walk_at "s"
      refine ⟨(by simp only [List.length_map, List.length_cons, List.length_nil, List.length_append]; omega), ?_⟩
      walk_at "new"
      rename_i q3 nn3 G3 s3 e_y0_3
      replace e_y0_3 : G3 q3 = some (.lst ((f ++ [some lo, some lw]).map ov)) := e_y0_3.trans (congrArg (fun z => some (HO.lst z)) (sl f [some lo, some lw] _ [.int lo, .int lw] rfl rfl))
      have P3 := P2.same s3
      have hf3 := P3.hf
      have ha3 := P3.ha
      have S3 := S2.trans s3
      have e_x0_3 := s3 _ _ e_x0_2
      clear hf2 ha2 e_x0_2
      walk_at "s"
      walk_at "new"
      rename_i q4 nn4 G4 s4 e_t0_4
      have P4 := P3.same s4
      have hf4 := P4.hf
      have ha4 := P4.ha
      have S4 := S3.trans s4
      have e_x0_4 := s4 _ _ e_x0_3
      have e_y0_4 := s4 _ _ e_y0_3
      clear hf3 ha3 e_x0_3 e_y0_3
      walk_at "s"
      walk_at "new"
      rename_i q5 nn5 G5 s5 e_x1_5
      have P5 := P4.same s5
      have hf5 := P5.hf
      have ha5 := P5.ha
      have S5 := S4.trans s5
      have e_x0_5 := s5 _ _ e_x0_4
      have e_y0_5 := s5 _ _ e_y0_4
      have e_t0_5 := s5 _ _ e_t0_4
      clear hf4 ha4 e_x0_4 e_y0_4 e_t0_4
      walk_at "s"
      refine ⟨(by simp only [List.length_map, List.length_cons, List.length_nil, List.length_append]; omega), ?_⟩
      walk_at "new"
      rename_i q6 nn6 G6 s6 e_y1_6
      replace e_y1_6 : G6 q6 = some (.lst ((f ++ [some 0, none]).map ov)) := e_y1_6.trans (congrArg (fun z => some (HO.lst z)) (sl f [some 0, none] _ [.int 0, .non] rfl rfl))
      have P6 := P5.same s6
      have hf6 := P6.hf
      have ha6 := P6.ha
      have S6 := S5.trans s6
      have e_x0_6 := s6 _ _ e_x0_5
      have e_y0_6 := s6 _ _ e_y0_5
      have e_t0_6 := s6 _ _ e_t0_5
      have e_x1_6 := s6 _ _ e_x1_5
      clear hf5 ha5 e_x0_5 e_y0_5 e_t0_5 e_x1_5
      walk_at "s"
      walk_at "new"
      rename_i q7 nn7 G7 s7 e_t1_7
      have P7 := P6.same s7
      have hf7 := P7.hf
      have ha7 := P7.ha
      have S7 := S6.trans s7
      have e_x0_7 := s7 _ _ e_x0_6
      have e_y0_7 := s7 _ _ e_y0_6
      have e_t0_7 := s7 _ _ e_t0_6
      have e_x1_7 := s7 _ _ e_x1_6
      have e_y1_7 := s7 _ _ e_y1_6
      clear hf6 ha6 e_x0_6 e_y0_6 e_t0_6 e_x1_6 e_y1_6
      walk_at "s"
      walk_at "new"
      rename_i q8 nn8 G8 s8 e_l_8
      have P8 := P7.same s8
      have hf8 := P8.hf
      have ha8 := P8.ha
      have S8 := S7.trans s8
      have e_x0_8 := s8 _ _ e_x0_7
      have e_y0_8 := s8 _ _ e_y0_7
      have e_t0_8 := s8 _ _ e_t0_7
      have e_x1_8 := s8 _ _ e_x1_7
      have e_y1_8 := s8 _ _ e_y1_7
      have e_t1_8 := s8 _ _ e_t1_7
      clear hf7 ha7 e_x0_7 e_y0_7 e_t0_7 e_x1_7 e_y1_7 e_t1_7
      refine ⟨_, rfl, S8, _, e_l_8, (by simp only [List.length_map, List.length_cons, List.length_nil, List.length_append]; omega), fun x hx => ?_⟩
      simp only [List.mem_cons, List.not_mem_nil, or_false] at hx
      rcases hx with rfl | rfl
      · exact good e_t0_8 (listArg e_y0_8) (listArg P8.ha) (.int m) (R.w1 hlw _ _)
      · exact good e_t1_8 (listArg e_y1_8) (listArg P8.ha) (.int m) (R.w2 0 _ _)
    rintro σ' HB0 ⟨L, rfl, SB, xs, eW, lW, gW⟩
    refine ⟨fun σ' H' => ∃ L, σ' = [some (.ref b), some (.ref p), some (.ref pF), some (.ref pA), some (.int m), some (.int lw), some (.ref L), none, none, none, none] ∧ Same H1 H' ∧ WAt C H' L 5, ?_, ?_⟩
    · have PB := P1.same SB
      have S1 := SB
      have e_w_1 := eW
      have P1 := PB
      have hf1 := PB.hf
      have ha1 := PB.ha
      walk_at "s"
      walk_at "new"
      rename_i q2 nn2 G2 s2 e_x0_2
      have P2 := P1.same s2
      have hf2 := P2.hf
      have ha2 := P2.ha
      have S2 := S1.trans s2
      have e_w_2 := s2 _ _ e_w_1
      clear hf1 ha1 e_w_1
      walk_at "s"
      refine ⟨(by simp only [List.length_map, List.length_cons, List.length_nil, List.length_append]; omega), ?_⟩
      walk_at "new"
      rename_i q3 nn3 G3 s3 e_y0_3
      replace e_y0_3 : G3 q3 = some (.lst (.bl true :: f.map ov)) := e_y0_3
      have P3 := P2.same s3
      have hf3 := P3.hf
      have ha3 := P3.ha
      have S3 := S2.trans s3
      have e_w_3 := s3 _ _ e_w_2
      have e_x0_3 := s3 _ _ e_x0_2
      clear hf2 ha2 e_w_2 e_x0_2
      walk_at "s"
      walk_at "new"
      rename_i q4 nn4 G4 s4 e_t0_4
      have P4 := P3.same s4
      have hf4 := P4.hf
      have ha4 := P4.ha
      have S4 := S3.trans s4
      have e_w_4 := s4 _ _ e_w_3
      have e_x0_4 := s4 _ _ e_x0_3
      have e_y0_4 := s4 _ _ e_y0_3
      clear hf3 ha3 e_w_3 e_x0_3 e_y0_3
      walk_at "s"
      walk_at "new"
      rename_i q5 nn5 G5 s5 e_t1_5
      have P5 := P4.same s5
      have hf5 := P5.hf
      have ha5 := P5.ha
      have S5 := S4.trans s5
      have e_w_5 := s5 _ _ e_w_4
      have e_x0_5 := s5 _ _ e_x0_4
      have e_y0_5 := s5 _ _ e_y0_4
      have e_t0_5 := s5 _ _ e_t0_4
      clear hf4 ha4 e_w_4 e_x0_4 e_y0_4 e_t0_4
      walk_at "s"
      walk_at "new"
      rename_i q6 nn6 G6 s6 e_t2_6
      have P6 := P5.same s6
      have hf6 := P6.hf
      have ha6 := P6.ha
      have S6 := S5.trans s6
      have e_w_6 := s6 _ _ e_w_5
      have e_x0_6 := s6 _ _ e_x0_5
      have e_y0_6 := s6 _ _ e_y0_5
      have e_t0_6 := s6 _ _ e_t0_5
      have e_t1_6 := s6 _ _ e_t1_5
      clear hf5 ha5 e_w_5 e_x0_5 e_y0_5 e_t0_5 e_t1_5
      walk_at "s"
      walk_at "new"
      rename_i q7 nn7 G7 s7 e_l_7
      have P7 := P6.same s7
      have hf7 := P7.hf
      have ha7 := P7.ha
      have S7 := S6.trans s7
      have e_w_7 := s7 _ _ e_w_6
      have e_x0_7 := s7 _ _ e_x0_6
      have e_y0_7 := s7 _ _ e_y0_6
      have e_t0_7 := s7 _ _ e_t0_6
      have e_t1_7 := s7 _ _ e_t1_6
      have e_t2_7 := s7 _ _ e_t2_6
      clear hf6 ha6 e_w_6 e_x0_6 e_y0_6 e_t0_6 e_t1_6 e_t2_6
      walk_at "s"
      refine ⟨(by simp only [List.length_map, List.length_cons, List.length_nil, List.length_append]; omega), ?_⟩
      walk_at "new"
      rename_i q8 nn8 G8 s8 e_c_8
      have P8 := P7.same s8
      have hf8 := P8.hf
      have ha8 := P8.ha
      have S8 := S7.trans s8
      have e_w_8 := s8 _ _ e_w_7
      have e_x0_8 := s8 _ _ e_x0_7
      have e_y0_8 := s8 _ _ e_y0_7
      have e_t0_8 := s8 _ _ e_t0_7
      have e_t1_8 := s8 _ _ e_t1_7
      have e_t2_8 := s8 _ _ e_t2_7
      have e_l_8 := s8 _ _ e_l_7
      clear hf7 ha7 e_w_7 e_x0_7 e_y0_7 e_t0_7 e_t1_7 e_t2_7 e_l_7
      refine ⟨_, rfl, S8, _, e_c_8, (by simp only [List.length_map, List.length_cons, List.length_nil, List.length_append]; omega), fun x hx => ?_⟩
      rcases List.mem_append.mp hx with hx | hx
      · exact (gW x hx).same (s2.trans (s3.trans (s4.trans (s5.trans (s6.trans (s7.trans s8))))))
      · simp only [List.mem_cons, List.not_mem_nil, or_false] at hx
        rcases hx with rfl | rfl | rfl
        · exact good e_t0_8 (.seq (.inl e_y0_8) (.cons (.bl true) (els_ov _ f))) (listArg P8.ha) (.int m) (word_first (show risesFrom none (none :: f.map some) = false from rfl) _ _)
        · exact good e_t1_8 (.str _) (listArg P8.ha) (.int m) (word_first0 _ _)
        · exact good e_t2_8 (.non) (listArg P8.ha) (.int m) (word_first0 _ _)
    rintro σ' HB1 ⟨L, rfl, SB, xs, eW, lW, gW⟩
    refine ⟨fun σ' H' => ∃ L, σ' = [some (.ref b), some (.ref p), some (.ref pF), some (.ref pA), some (.int m), some (.int lw), some (.ref L), none, none, none, none] ∧ Same H1 H' ∧ WAt C H' L 7, ?_, ?_⟩
    · have PB := P1.same SB
      have S1 := SB
      have e_w_1 := eW
      have P1 := PB
      have hf1 := PB.hf
      have ha1 := PB.ha
      walk_at "s"
      walk_at "new"
      rename_i q2 nn2 G2 s2 e_x0_2
      have P2 := P1.same s2
      have hf2 := P2.hf
      have ha2 := P2.ha
      have S2 := S1.trans s2
      have e_w_2 := s2 _ _ e_w_1
      clear hf1 ha1 e_w_1
      walk_at "s"
      refine ⟨(by simp only [List.length_map, List.length_cons, List.length_nil, List.length_append]; omega), ?_⟩
      walk_at "new"
      rename_i q3 nn3 G3 s3 e_y0_3
      replace e_y0_3 : G3 q3 = some (.lst ((f ++ [some (lo + 1)]).map ov)) := e_y0_3.trans (congrArg (fun z => some (HO.lst z)) (sl f [some (lo + 1)] _ [.int (lo + 1)] rfl rfl))
      have P3 := P2.same s3
      have hf3 := P3.hf
      have ha3 := P3.ha
      have S3 := S2.trans s3
      have e_w_3 := s3 _ _ e_w_2
      have e_x0_3 := s3 _ _ e_x0_2
      clear hf2 ha2 e_w_2 e_x0_2
      walk_at "s"
      walk_at "new"
      rename_i q4 nn4 G4 s4 e_t0_4
      have P4 := P3.same s4
      have hf4 := P4.hf
      have ha4 := P4.ha
      have S4 := S3.trans s4
      have e_w_4 := s4 _ _ e_w_3
      have e_x0_4 := s4 _ _ e_x0_3
      have e_y0_4 := s4 _ _ e_y0_3
      clear hf3 ha3 e_w_3 e_x0_3 e_y0_3
      walk_at "s"
      walk_at "new"
      rename_i q5 nn5 G5 s5 e_x1_5
      have P5 := P4.same s5
      have hf5 := P5.hf
      have ha5 := P5.ha
      have S5 := S4.trans s5
      have e_w_5 := s5 _ _ e_w_4
      have e_x0_5 := s5 _ _ e_x0_4
      have e_y0_5 := s5 _ _ e_y0_4
      have e_t0_5 := s5 _ _ e_t0_4
      clear hf4 ha4 e_w_4 e_x0_4 e_y0_4 e_t0_4
      walk_at "s"
      walk_at "new"
      rename_i q6 nn6 G6 s6 e_t1_6
      have P6 := P5.same s6
      have hf6 := P6.hf
      have ha6 := P6.ha
      have S6 := S5.trans s6
      have e_w_6 := s6 _ _ e_w_5
      have e_x0_6 := s6 _ _ e_x0_5
      have e_y0_6 := s6 _ _ e_y0_5
      have e_t0_6 := s6 _ _ e_t0_5
      have e_x1_6 := s6 _ _ e_x1_5
      clear hf5 ha5 e_w_5 e_x0_5 e_y0_5 e_t0_5 e_x1_5
      walk_at "s"
      walk_at "new"
      rename_i q7 nn7 G7 s7 e_l_7
      have P7 := P6.same s7
      have hf7 := P7.hf
      have ha7 := P7.ha
      have S7 := S6.trans s7
      have e_w_7 := s7 _ _ e_w_6
      have e_x0_7 := s7 _ _ e_x0_6
      have e_y0_7 := s7 _ _ e_y0_6
      have e_t0_7 := s7 _ _ e_t0_6
      have e_x1_7 := s7 _ _ e_x1_6
      have e_t1_7 := s7 _ _ e_t1_6
      clear hf6 ha6 e_w_6 e_x0_6 e_y0_6 e_t0_6 e_x1_6 e_t1_6
      walk_at "s"
      refine ⟨(by simp only [List.length_map, List.length_cons, List.length_nil, List.length_append]; omega), ?_⟩
      walk_at "new"
      rename_i q8 nn8 G8 s8 e_c_8
      have P8 := P7.same s8
      have hf8 := P8.hf
      have ha8 := P8.ha
      have S8 := S7.trans s8
      have e_w_8 := s8 _ _ e_w_7
      have e_x0_8 := s8 _ _ e_x0_7
      have e_y0_8 := s8 _ _ e_y0_7
      have e_t0_8 := s8 _ _ e_t0_7
      have e_x1_8 := s8 _ _ e_x1_7
      have e_t1_8 := s8 _ _ e_t1_7
      have e_l_8 := s8 _ _ e_l_7
      clear hf7 ha7 e_w_7 e_x0_7 e_y0_7 e_t0_7 e_x1_7 e_t1_7 e_l_7
      refine ⟨_, rfl, S8, _, e_c_8, (by simp only [List.length_map, List.length_cons, List.length_nil, List.length_append]; omega), fun x hx => ?_⟩
      rcases List.mem_append.mp hx with hx | hx
      · exact (gW x hx).same (s2.trans (s3.trans (s4.trans (s5.trans (s6.trans (s7.trans s8))))))
      · simp only [List.mem_cons, List.not_mem_nil, or_false] at hx
        rcases hx with rfl | rfl
        · exact good e_t0_8 (listArg e_y0_8) (listArg P8.ha) (.int m) (R.w6 _)
        · exact good e_t1_8 (listArg P8.hf) (.seq (.inl e_x1_8) .nil) (.int m) (word_again1 R.rf _)
    rintro σ' HB2 ⟨L, rfl, SB, xs, eW, lW, gW⟩
    refine ⟨fun σ' H' => ∃ L, σ' = [some (.ref b), some (.ref p), some (.ref pF), some (.ref pA), some (.int m), some (.int lw), some (.ref L), none, none, none, none] ∧ Same H1 H' ∧ WAt C H' L 8, ?_, ?_⟩
    · have PB := P1.same SB
      have S1 := SB
      have e_w_1 := eW
      have P1 := PB
      have hf1 := PB.hf
      have ha1 := PB.ha
      walk_at "s"
      walk_at "new"
      rename_i q2 nn2 G2 s2 e_t0_2
      have P2 := P1.same s2
      have hf2 := P2.hf
      have ha2 := P2.ha
      have S2 := S1.trans s2
      have e_w_2 := s2 _ _ e_w_1
      clear hf1 ha1 e_w_1
      walk_at "s"
      walk_at "new"
      rename_i q3 nn3 G3 s3 e_l_3
      have P3 := P2.same s3
      have hf3 := P3.hf
      have ha3 := P3.ha
      have S3 := S2.trans s3
      have e_w_3 := s3 _ _ e_w_2
      have e_t0_3 := s3 _ _ e_t0_2
      clear hf2 ha2 e_w_2 e_t0_2
      walk_at "s"
      refine ⟨(by simp only [List.length_map, List.length_cons, List.length_nil, List.length_append]; omega), ?_⟩
      walk_at "new"
      rename_i q4 nn4 G4 s4 e_c_4
      have P4 := P3.same s4
      have hf4 := P4.hf
      have ha4 := P4.ha
      have S4 := S3.trans s4
      have e_w_4 := s4 _ _ e_w_3
      have e_t0_4 := s4 _ _ e_t0_3
      have e_l_4 := s4 _ _ e_l_3
      clear hf3 ha3 e_w_3 e_t0_3 e_l_3
      refine ⟨_, rfl, S4, _, e_c_4, (by simp only [List.length_map, List.length_cons, List.length_nil, List.length_append]; omega), fun x hx => ?_⟩
      rcases List.mem_append.mp hx with hx | hx
      · exact (gW x hx).same (s2.trans (s3.trans s4))
      · simp only [List.mem_cons, List.not_mem_nil, or_false] at hx
        subst hx
        exact good e_t0_4 (listArg P4.hf) (.non) (.int m) (word_again0 R.rf _)
    rintro σ' HB3 ⟨L, rfl, SB, xs, eW, lW, gW⟩
    refine ⟨fun σ' H' => ∃ L, σ' = [some (.ref b), some (.ref p), some (.ref pF), some (.ref pA), some (.int m), some (.int lw), some (.ref L), none, none, none, none] ∧ Same H1 H' ∧ WAt C H' L 10, ?_, ?_⟩
    · have PB := P1.same SB
      have S1 := SB
      have e_w_1 := eW
      have P1 := PB
      have hf1 := PB.hf
      have ha1 := PB.ha
      walk_at "s"
      walk_at "new"
      rename_i q2 nn2 G2 s2 e_x0_2
      have P2 := P1.same s2
      have hf2 := P2.hf
      have ha2 := P2.ha
      have S2 := S1.trans s2
      have e_w_2 := s2 _ _ e_w_1
      clear hf1 ha1 e_w_1
      walk_at "s"
      refine ⟨(by simp only [List.length_map, List.length_cons, List.length_nil, List.length_append]; omega), ?_⟩
      walk_at "new"
      rename_i q3 nn3 G3 s3 e_y0_3
      replace e_y0_3 : G3 q3 = some (.lst ((a ++ [some lw]).map ov)) := e_y0_3.trans (congrArg (fun z => some (HO.lst z)) (sl a [some lw] _ [.int lw] rfl rfl))
      have P3 := P2.same s3
      have hf3 := P3.hf
      have ha3 := P3.ha
      have S3 := S2.trans s3
      have e_w_3 := s3 _ _ e_w_2
      have e_x0_3 := s3 _ _ e_x0_2
      clear hf2 ha2 e_w_2 e_x0_2
      walk_at "s"
      walk_at "new"
      rename_i q4 nn4 G4 s4 e_t0_4
      have P4 := P3.same s4
      have hf4 := P4.hf
      have ha4 := P4.ha
      have S4 := S3.trans s4
      have e_w_4 := s4 _ _ e_w_3
      have e_x0_4 := s4 _ _ e_x0_3
      have e_y0_4 := s4 _ _ e_y0_3
      clear hf3 ha3 e_w_3 e_x0_3 e_y0_3
      walk_at "s"
      walk_at "new"
      rename_i q5 nn5 G5 s5 e_x1_5
      have P5 := P4.same s5
      have hf5 := P5.hf
      have ha5 := P5.ha
      have S5 := S4.trans s5
      have e_w_5 := s5 _ _ e_w_4
      have e_x0_5 := s5 _ _ e_x0_4
      have e_y0_5 := s5 _ _ e_y0_4
      have e_t0_5 := s5 _ _ e_t0_4
      clear hf4 ha4 e_w_4 e_x0_4 e_y0_4 e_t0_4
      walk_at "s"
      refine ⟨(by simp only [List.length_map, List.length_cons, List.length_nil, List.length_append]; omega), ?_⟩
      walk_at "new"
      rename_i q6 nn6 G6 s6 e_y1_6
      replace e_y1_6 : G6 q6 = some (.lst ((a ++ [none]).map ov)) := e_y1_6.trans (congrArg (fun z => some (HO.lst z)) (sl a [none] _ [.non] rfl rfl))
      have P6 := P5.same s6
      have hf6 := P6.hf
      have ha6 := P6.ha
      have S6 := S5.trans s6
      have e_w_6 := s6 _ _ e_w_5
      have e_x0_6 := s6 _ _ e_x0_5
      have e_y0_6 := s6 _ _ e_y0_5
      have e_t0_6 := s6 _ _ e_t0_5
      have e_x1_6 := s6 _ _ e_x1_5
      clear hf5 ha5 e_w_5 e_x0_5 e_y0_5 e_t0_5 e_x1_5
      walk_at "s"
      walk_at "new"
      rename_i q7 nn7 G7 s7 e_t1_7
      have P7 := P6.same s7
      have hf7 := P7.hf
      have ha7 := P7.ha
      have S7 := S6.trans s7
      have e_w_7 := s7 _ _ e_w_6
      have e_x0_7 := s7 _ _ e_x0_6
      have e_y0_7 := s7 _ _ e_y0_6
      have e_t0_7 := s7 _ _ e_t0_6
      have e_x1_7 := s7 _ _ e_x1_6
      have e_y1_7 := s7 _ _ e_y1_6
      clear hf6 ha6 e_w_6 e_x0_6 e_y0_6 e_t0_6 e_x1_6 e_y1_6
      walk_at "s"
      walk_at "new"
      rename_i q8 nn8 G8 s8 e_l_8
      have P8 := P7.same s8
      have hf8 := P8.hf
      have ha8 := P8.ha
      have S8 := S7.trans s8
      have e_w_8 := s8 _ _ e_w_7
      have e_x0_8 := s8 _ _ e_x0_7
      have e_y0_8 := s8 _ _ e_y0_7
      have e_t0_8 := s8 _ _ e_t0_7
      have e_x1_8 := s8 _ _ e_x1_7
      have e_y1_8 := s8 _ _ e_y1_7
      have e_t1_8 := s8 _ _ e_t1_7
      clear hf7 ha7 e_w_7 e_x0_7 e_y0_7 e_t0_7 e_x1_7 e_y1_7 e_t1_7
      walk_at "s"
      refine ⟨(by simp only [List.length_map, List.length_cons, List.length_nil, List.length_append]; omega), ?_⟩
      walk_at "new"
      rename_i q9 nn9 G9 s9 e_c_9
      have P9 := P8.same s9
      have hf9 := P9.hf
      have ha9 := P9.ha
      have S9 := S8.trans s9
      have e_w_9 := s9 _ _ e_w_8
      have e_x0_9 := s9 _ _ e_x0_8
      have e_y0_9 := s9 _ _ e_y0_8
      have e_t0_9 := s9 _ _ e_t0_8
      have e_x1_9 := s9 _ _ e_x1_8
      have e_y1_9 := s9 _ _ e_y1_8
      have e_t1_9 := s9 _ _ e_t1_8
      have e_l_9 := s9 _ _ e_l_8
      clear hf8 ha8 e_w_8 e_x0_8 e_y0_8 e_t0_8 e_x1_8 e_y1_8 e_t1_8 e_l_8
      refine ⟨_, rfl, S9, _, e_c_9, (by simp only [List.length_map, List.length_cons, List.length_nil, List.length_append]; omega), fun x hx => ?_⟩
      rcases List.mem_append.mp hx with hx | hx
      · exact (gW x hx).same (s2.trans (s3.trans (s4.trans (s5.trans (s6.trans (s7.trans (s8.trans s9)))))))
      · simp only [List.mem_cons, List.not_mem_nil, or_false] at hx
        rcases hx with rfl | rfl
        · exact good e_t0_9 (listArg P9.hf) (listArg e_y0_9) (.int m) (R.w9 hlw _)
        · exact good e_t1_9 (listArg P9.hf) (listArg e_y1_9) (.int m) (R.w10 _)
    rintro σ' HB4 ⟨L, rfl, SB, xs, eW, lW, gW⟩
    refine ⟨fun σ' H' => ∃ L, σ' = [some (.ref b), some (.ref p), some (.ref pF), some (.ref pA), some (.int m), some (.int lw), some (.ref L), none, none, none, none] ∧ Same H1 H' ∧ WAt C H' L 13, ?_, ?_⟩
    · have PB := P1.same SB
      have S1 := SB
      have e_w_1 := eW
      have P1 := PB
      have hf1 := PB.hf
      have ha1 := PB.ha
      walk_at "s"
      walk_at "new"
      rename_i q2 nn2 G2 s2 e_x0_2
      have P2 := P1.same s2
      have hf2 := P2.hf
      have ha2 := P2.ha
      have S2 := S1.trans s2
      have e_w_2 := s2 _ _ e_w_1
      clear hf1 ha1 e_w_1
      walk_at "s"
      walk_at "new"
      rename_i q3 nn3 G3 s3 e_y0_3
      have P3 := P2.same s3
      have hf3 := P3.hf
      have ha3 := P3.ha
      have S3 := S2.trans s3
      have e_w_3 := s3 _ _ e_w_2
      have e_x0_3 := s3 _ _ e_x0_2
      clear hf2 ha2 e_w_2 e_x0_2
      walk_at "s"
      walk_at "new"
      rename_i q4 nn4 G4 s4 e_t0_4
      have P4 := P3.same s4
      have hf4 := P4.hf
      have ha4 := P4.ha
      have S4 := S3.trans s4
      have e_w_4 := s4 _ _ e_w_3
      have e_x0_4 := s4 _ _ e_x0_3
      have e_y0_4 := s4 _ _ e_y0_3
      clear hf3 ha3 e_w_3 e_x0_3 e_y0_3
      walk_at "s"
      walk_at "new"
      rename_i q5 nn5 G5 s5 e_x1_5
      have P5 := P4.same s5
      have hf5 := P5.hf
      have ha5 := P5.ha
      have S5 := S4.trans s5
      have e_w_5 := s5 _ _ e_w_4
      have e_x0_5 := s5 _ _ e_x0_4
      have e_y0_5 := s5 _ _ e_y0_4
      have e_t0_5 := s5 _ _ e_t0_4
      clear hf4 ha4 e_w_4 e_x0_4 e_y0_4 e_t0_4
      walk_at "s"
      walk_at "new"
      rename_i q6 nn6 G6 s6 e_y1_6
      have P6 := P5.same s6
      have hf6 := P6.hf
      have ha6 := P6.ha
      have S6 := S5.trans s6
      have e_w_6 := s6 _ _ e_w_5
      have e_x0_6 := s6 _ _ e_x0_5
      have e_y0_6 := s6 _ _ e_y0_5
      have e_t0_6 := s6 _ _ e_t0_5
      have e_x1_6 := s6 _ _ e_x1_5
      clear hf5 ha5 e_w_5 e_x0_5 e_y0_5 e_t0_5 e_x1_5
      walk_at "s"
      walk_at "new"
      rename_i q7 nn7 G7 s7 e_t1_7
      have P7 := P6.same s7
      have hf7 := P7.hf
      have ha7 := P7.ha
      have S7 := S6.trans s7
      have e_w_7 := s7 _ _ e_w_6
      have e_x0_7 := s7 _ _ e_x0_6
      have e_y0_7 := s7 _ _ e_y0_6
      have e_t0_7 := s7 _ _ e_t0_6
      have e_x1_7 := s7 _ _ e_x1_6
      have e_y1_7 := s7 _ _ e_y1_6
      clear hf6 ha6 e_w_6 e_x0_6 e_y0_6 e_t0_6 e_x1_6 e_y1_6
      walk_at "s"
      walk_at "new"
      rename_i q8 nn8 G8 s8 e_x2_8
      have P8 := P7.same s8
      have hf8 := P8.hf
      have ha8 := P8.ha
      have S8 := S7.trans s8
      have e_w_8 := s8 _ _ e_w_7
      have e_x0_8 := s8 _ _ e_x0_7
      have e_y0_8 := s8 _ _ e_y0_7
      have e_t0_8 := s8 _ _ e_t0_7
      have e_x1_8 := s8 _ _ e_x1_7
      have e_y1_8 := s8 _ _ e_y1_7
      have e_t1_8 := s8 _ _ e_t1_7
      clear hf7 ha7 e_w_7 e_x0_7 e_y0_7 e_t0_7 e_x1_7 e_y1_7 e_t1_7
      walk_at "s"
      walk_at "new"
      rename_i q9 nn9 G9 s9 e_y2_9
      have P9 := P8.same s9
      have hf9 := P9.hf
      have ha9 := P9.ha
      have S9 := S8.trans s9
      have e_w_9 := s9 _ _ e_w_8
      have e_x0_9 := s9 _ _ e_x0_8
      have e_y0_9 := s9 _ _ e_y0_8
      have e_t0_9 := s9 _ _ e_t0_8
      have e_x1_9 := s9 _ _ e_x1_8
      have e_y1_9 := s9 _ _ e_y1_8
      have e_t1_9 := s9 _ _ e_t1_8
      have e_x2_9 := s9 _ _ e_x2_8
      clear hf8 ha8 e_w_8 e_x0_8 e_y0_8 e_t0_8 e_x1_8 e_y1_8 e_t1_8 e_x2_8
      walk_at "s"
      walk_at "new"
      rename_i q10 nn10 G10 s10 e_t2_10
      have P10 := P9.same s10
      have hf10 := P10.hf
      have ha10 := P10.ha
      have S10 := S9.trans s10
      have e_w_10 := s10 _ _ e_w_9
      have e_x0_10 := s10 _ _ e_x0_9
      have e_y0_10 := s10 _ _ e_y0_9
      have e_t0_10 := s10 _ _ e_t0_9
      have e_x1_10 := s10 _ _ e_x1_9
      have e_y1_10 := s10 _ _ e_y1_9
      have e_t1_10 := s10 _ _ e_t1_9
      have e_x2_10 := s10 _ _ e_x2_9
      have e_y2_10 := s10 _ _ e_y2_9
      clear hf9 ha9 e_w_9 e_x0_9 e_y0_9 e_t0_9 e_x1_9 e_y1_9 e_t1_9 e_x2_9 e_y2_9
      walk_at "s"
      walk_at "new"
      rename_i q11 nn11 G11 s11 e_l_11
      have P11 := P10.same s11
      have hf11 := P11.hf
      have ha11 := P11.ha
      have S11 := S10.trans s11
      have e_w_11 := s11 _ _ e_w_10
      have e_x0_11 := s11 _ _ e_x0_10
      have e_y0_11 := s11 _ _ e_y0_10
      have e_t0_11 := s11 _ _ e_t0_10
      have e_x1_11 := s11 _ _ e_x1_10
      have e_y1_11 := s11 _ _ e_y1_10
      have e_t1_11 := s11 _ _ e_t1_10
      have e_x2_11 := s11 _ _ e_x2_10
      have e_y2_11 := s11 _ _ e_y2_10
      have e_t2_11 := s11 _ _ e_t2_10
      clear hf10 ha10 e_w_10 e_x0_10 e_y0_10 e_t0_10 e_x1_10 e_y1_10 e_t1_10 e_x2_10 e_y2_10 e_t2_10
      walk_at "s"
      refine ⟨(by simp only [List.length_map, List.length_cons, List.length_nil, List.length_append]; omega), ?_⟩
      walk_at "new"
      rename_i q12 nn12 G12 s12 e_c_12
      have P12 := P11.same s12
      have hf12 := P12.hf
      have ha12 := P12.ha
      have S12 := S11.trans s12
      have e_w_12 := s12 _ _ e_w_11
      have e_x0_12 := s12 _ _ e_x0_11
      have e_y0_12 := s12 _ _ e_y0_11
      have e_t0_12 := s12 _ _ e_t0_11
      have e_x1_12 := s12 _ _ e_x1_11
      have e_y1_12 := s12 _ _ e_y1_11
      have e_t1_12 := s12 _ _ e_t1_11
      have e_x2_12 := s12 _ _ e_x2_11
      have e_y2_12 := s12 _ _ e_y2_11
      have e_t2_12 := s12 _ _ e_t2_11
      have e_l_12 := s12 _ _ e_l_11
      clear hf11 ha11 e_w_11 e_x0_11 e_y0_11 e_t0_11 e_x1_11 e_y1_11 e_t1_11 e_x2_11 e_y2_11 e_t2_11 e_l_11
      refine ⟨_, rfl, S12, _, e_c_12, (by simp only [List.length_map, List.length_cons, List.length_nil, List.length_append]; omega), fun x hx => ?_⟩
      rcases List.mem_append.mp hx with hx | hx
      · exact (gW x hx).same (s2.trans (s3.trans (s4.trans (s5.trans (s6.trans (s7.trans (s8.trans (s9.trans (s10.trans (s11.trans s12))))))))))
      · simp only [List.mem_cons, List.not_mem_nil, or_false] at hx
        rcases hx with rfl | rfl | rfl
        · exact good e_t0_12 (.seq (.inl e_x0_12) (.cons (.int 0) .nil)) (.seq (.inl e_y0_12) (.cons .non .nil)) (.int 0) (w11)
        · exact good e_t1_12 (.seq (.inl e_x1_12) .nil) (.seq (.inl e_y1_12) (.cons .non (.cons (.int 0) .nil))) (.int 0) (w12)
        · exact good e_t2_12 (.seq (.inl e_x2_12) .nil) (.seq (.inl e_y2_12) (.cons (.bl false) (.cons (.int 2) .nil))) (.int 3) (w13 _)
    rintro σ' HB5 ⟨L, rfl, SB, xs, eW, lW, gW⟩
    refine ⟨fun σ' H' => ∃ L, σ' = [some (.ref b), some (.ref p), some (.ref pF), some (.ref pA), some (.int m), some (.int lw), some (.ref L), none, none, none, none] ∧ Same H1 H' ∧ WAt C H' L 15, ?_, ?_⟩
    · have PB := P1.same SB
      have S1 := SB
      have e_w_1 := eW
      have P1 := PB
      have hf1 := PB.hf
      have ha1 := PB.ha
      walk_at "s"
      walk_at "new"
      rename_i q2 nn2 G2 s2 e_t0_2
      have P2 := P1.same s2
      have hf2 := P2.hf
      have ha2 := P2.ha
      have S2 := S1.trans s2
      have e_w_2 := s2 _ _ e_w_1
      clear hf1 ha1 e_w_1
      walk_at "s"
      walk_at "new"
      rename_i q3 nn3 G3 s3 e_t1_3
      have P3 := P2.same s3
      have hf3 := P3.hf
      have ha3 := P3.ha
      have S3 := S2.trans s3
      have e_w_3 := s3 _ _ e_w_2
      have e_t0_3 := s3 _ _ e_t0_2
      clear hf2 ha2 e_w_2 e_t0_2
      walk_at "s"
      walk_at "new"
      rename_i q4 nn4 G4 s4 e_l_4
      have P4 := P3.same s4
      have hf4 := P4.hf
      have ha4 := P4.ha
      have S4 := S3.trans s4
      have e_w_4 := s4 _ _ e_w_3
      have e_t0_4 := s4 _ _ e_t0_3
      have e_t1_4 := s4 _ _ e_t1_3
      clear hf3 ha3 e_w_3 e_t0_3 e_t1_3
      walk_at "s"
      refine ⟨(by simp only [List.length_map, List.length_cons, List.length_nil, List.length_append]; omega), ?_⟩
      walk_at "new"
      rename_i q5 nn5 G5 s5 e_c_5
      have P5 := P4.same s5
      have hf5 := P5.hf
      have ha5 := P5.ha
      have S5 := S4.trans s5
      have e_w_5 := s5 _ _ e_w_4
      have e_t0_5 := s5 _ _ e_t0_4
      have e_t1_5 := s5 _ _ e_t1_4
      have e_l_5 := s5 _ _ e_l_4
      clear hf4 ha4 e_w_4 e_t0_4 e_t1_4 e_l_4
      refine ⟨_, rfl, S5, _, e_c_5, (by simp only [List.length_map, List.length_cons, List.length_nil, List.length_append]; omega), fun x hx => ?_⟩
      rcases List.mem_append.mp hx with hx | hx
      · exact (gW x hx).same (s2.trans (s3.trans (s4.trans s5)))
      · simp only [List.mem_cons, List.not_mem_nil, or_false] at hx
        rcases hx with rfl | rfl
        · exact good e_t0_5 (listArg P5.hf) (listArg P5.ha) (.int (hi - lo - 1)) (R.w_more (fun k h => by injection h with h; injection h with h; omega))
        · exact good e_t1_5 (listArg P5.hf) (listArg P5.ha) (.non) (R.w_more (fun k h => by injection h with h; cases h))
    rintro σ' HB6 ⟨L, rfl, SB, xs, eW, lW, gW⟩
    refine ⟨fun σ' H' => ∃ L, σ' = [some (.ref b), some (.ref p), some (.ref pF), some (.ref pA), some (.int m), some (.int lw), some (.ref L), none, none, none, none] ∧ Same H1 H' ∧ WAt C H' L 18, ?_, ?_⟩
    · have PB := P1.same SB
      have S1 := SB
      have e_w_1 := eW
      have P1 := PB
      have hf1 := PB.hf
      have ha1 := PB.ha
      walk_at "s"
      walk_at "new"
      rename_i q2 nn2 G2 s2 e_t0_2
      have P2 := P1.same s2
      have hf2 := P2.hf
      have ha2 := P2.ha
      have S2 := S1.trans s2
      have e_w_2 := s2 _ _ e_w_1
      clear hf1 ha1 e_w_1
      walk_at "s"
      walk_at "new"
      rename_i q3 nn3 G3 s3 e_t1_3
      have P3 := P2.same s3
      have hf3 := P3.hf
      have ha3 := P3.ha
      have S3 := S2.trans s3
      have e_w_3 := s3 _ _ e_w_2
      have e_t0_3 := s3 _ _ e_t0_2
      clear hf2 ha2 e_w_2 e_t0_2
      walk_at "s"
      walk_at "new"
      rename_i q4 nn4 G4 s4 e_x2_4
      have P4 := P3.same s4
      have hf4 := P4.hf
      have ha4 := P4.ha
      have S4 := S3.trans s4
      have e_w_4 := s4 _ _ e_w_3
      have e_t0_4 := s4 _ _ e_t0_3
      have e_t1_4 := s4 _ _ e_t1_3
      clear hf3 ha3 e_w_3 e_t0_3 e_t1_3
      walk_at "s"
      walk_at "new"
      rename_i q5 nn5 G5 s5 e_y2_5
      have P5 := P4.same s5
      have hf5 := P5.hf
      have ha5 := P5.ha
      have S5 := S4.trans s5
      have e_w_5 := s5 _ _ e_w_4
      have e_t0_5 := s5 _ _ e_t0_4
      have e_t1_5 := s5 _ _ e_t1_4
      have e_x2_5 := s5 _ _ e_x2_4
      clear hf4 ha4 e_w_4 e_t0_4 e_t1_4 e_x2_4
      walk_at "s"
      walk_at "new"
      rename_i q6 nn6 G6 s6 e_t2_6
      have P6 := P5.same s6
      have hf6 := P6.hf
      have ha6 := P6.ha
      have S6 := S5.trans s6
      have e_w_6 := s6 _ _ e_w_5
      have e_t0_6 := s6 _ _ e_t0_5
      have e_t1_6 := s6 _ _ e_t1_5
      have e_x2_6 := s6 _ _ e_x2_5
      have e_y2_6 := s6 _ _ e_y2_5
      clear hf5 ha5 e_w_5 e_t0_5 e_t1_5 e_x2_5 e_y2_5
      walk_at "s"
      walk_at "new"
      rename_i q7 nn7 G7 s7 e_l_7
      have P7 := P6.same s7
      have hf7 := P7.hf
      have ha7 := P7.ha
      have S7 := S6.trans s7
      have e_w_7 := s7 _ _ e_w_6
      have e_t0_7 := s7 _ _ e_t0_6
      have e_t1_7 := s7 _ _ e_t1_6
      have e_x2_7 := s7 _ _ e_x2_6
      have e_y2_7 := s7 _ _ e_y2_6
      have e_t2_7 := s7 _ _ e_t2_6
      clear hf6 ha6 e_w_6 e_t0_6 e_t1_6 e_x2_6 e_y2_6 e_t2_6
      walk_at "s"
      refine ⟨(by simp only [List.length_map, List.length_cons, List.length_nil, List.length_append]; omega), ?_⟩
      walk_at "new"
      rename_i q8 nn8 G8 s8 e_c_8
      have P8 := P7.same s8
      have hf8 := P8.hf
      have ha8 := P8.ha
      have S8 := S7.trans s8
      have e_w_8 := s8 _ _ e_w_7
      have e_t0_8 := s8 _ _ e_t0_7
      have e_t1_8 := s8 _ _ e_t1_7
      have e_x2_8 := s8 _ _ e_x2_7
      have e_y2_8 := s8 _ _ e_y2_7
      have e_t2_8 := s8 _ _ e_t2_7
      have e_l_8 := s8 _ _ e_l_7
      clear hf7 ha7 e_w_7 e_t0_7 e_t1_7 e_x2_7 e_y2_7 e_t2_7 e_l_7
      refine ⟨_, rfl, S8, _, e_c_8, (by simp only [List.length_map, List.length_cons, List.length_nil, List.length_append]; omega), fun x hx => ?_⟩
      rcases List.mem_append.mp hx with hx | hx
      · exact (gW x hx).same (s2.trans (s3.trans (s4.trans (s5.trans (s6.trans (s7.trans s8))))))
      · simp only [List.mem_cons, List.not_mem_nil, or_false] at hx
        rcases hx with rfl | rfl | rfl
        · exact good e_t0_8 (listArg P8.hf) (listArg P8.ha) (.bl true) (R.w_more (fun k h => nomatch h))
        · exact good e_t1_8 (listArg P8.hf) (listArg P8.ha) (.str _) (R.w_more (fun k h => nomatch h))
        · exact good e_t2_8 (.seq (.inl e_x2_8) .nil) (.seq (.inl e_y2_8) (.cons .non .nil)) (.int 1) (w18)
    rintro σ' HB7 ⟨L, rfl, SB, xs, eW, lW, gW⟩
    have B7 : Bx b H HB7 := s1.trans (Bx.of SB)
    have b7 : BoxAt HB7 b := b1.same SB
    refine ⟨_, rfl, L, rfl, ⟨_, SqL.of eW⟩, ?_⟩
    refine for_list (K := K) (a := L) (xs := xs) (fun i σ H' => (∃ y1 y2 y3 y4, σ = [some (.ref b), some (.ref p), some (.ref pF), some (.ref pA), some (.int m), some (.int lw), some (.ref L), y1, y2, y3, y4]) ∧ Same HB7 H')
      ⟨⟨_, _, _, _, rfl⟩, Same.refl _⟩ (fun i σ H' _ q => q.2.seq (SqL.of eW)) ?_ ?_
    · rintro i y σ H' hi ⟨⟨y1, y2, y3, y4, rfl⟩, s'⟩
      obtain ⟨pt, w', v1, v2, v3, rfl, et, hA⟩ := gW y (List.mem_of_getElem? hi)
      have et' := s' _ _ et
      have hA' := hA.same s'
      refine ⟨pt, _, rfl, SqT.of et', rfl, ?_⟩
      refine ⟨_, _, rfl, ?_⟩
      refine ⟨_, _, rfl, ?_⟩
      refine ⟨_, _, rfl, ?_⟩
      refine ⟨_, _, rfl, ?_⟩
      refine ⟨rfl, ?_⟩
      refine ⟨_, rfl, _, rfl, _, rfl, ?_⟩
      refine ⟨v1, v2, v3, some w', rfl, hA', fun H'' s'' => ?_⟩
      refine ⟨_, rfl, ?_⟩
      refine ⟨rfl, _, rfl, ?_⟩
      refine ite2 (fun c => ?_) (fun _ => ?_)
      · simp [ovs] at c
      · exact ⟨⟨_, _, _, _, rfl⟩, s'.trans s''⟩
    · rintro σ H' ⟨⟨y1, y2, y3, y4, rfl⟩, s'⟩
      walk_at "s"
      exact k _ (B7.trans (Bx.of s')) (b7.same s')
end
end My

set_option linter.all false
namespace My
open PySem PySem.Spec PyProof.Rows L2
local macro_rules | `(tactic| walk_at "side") => `(tactic| first | (dsimp only; omega) | exact ⟨by omega, by omega⟩ | exact Or.inl ⟨by omega, by omega⟩ | exact Or.inr ⟨by omega, by omega⟩ | decide)
local macro_rules | `(tactic| walk_at "sq") => `(tactic| first | assumption | exact SqL.of (by assumption) | exact SqT.of (by assumption) | (refine L2.Same.seq (by assumption) ?_; walk_at "sq") | (refine L2.Same.seqT (by assumption) ?_; walk_at "sq") | exact Or.inl (by walk_at "sq") | exact Or.inr (by walk_at "sq"))
local macro_rules | `(tactic| walk_at "1") => `(tactic| first
  | refine ⟨_, rfl, iteT ?_⟩
  | refine ⟨_, rfl, iteF ?_⟩
  | refine ⟨_, rfl, ?_⟩
  | refine ⟨_, _, rfl, rfl, (by walk_at "side"), ?_⟩
  | refine ⟨_, _, rfl, rfl, ?_⟩
  | refine ⟨_, _, _, _, true, rfl, .ty _, .base (.int _), kit_ty (a := "int") (by decide +kernel), ?_⟩
  | refine ⟨_, _, _, _, false, rfl, .ty _, .base (.int _), kit_ty (a := "int") (by decide +kernel), ?_⟩
  | refine ⟨_, _, rfl, (by walk_at "sq"), ?_⟩
  | refine ⟨_, _, _, _, rfl, rfl, (by walk_at "sq"), (by first | rfl | assumption), ?_⟩
  | refine Or.inl ⟨_, _, _, _, rfl, rfl, (by walk_at "sq"), (by first | rfl | assumption), ?_⟩
  | refine Or.inr (Or.inl ⟨_, _, _, _, rfl, rfl, (by walk_at "sq"), (by first | rfl | assumption), ?_⟩)
  | refine ⟨_, _, rfl, Or.inl ⟨(by walk_at "sq"), ?_⟩⟩
  | refine ⟨rfl, ?_⟩
  | refine iteT ?_
  | refine iteF ?_
  | refine ⟨_, _, _, _, _, rfl, (by assumption), (by assumption), (by assumption), (by assumption), ?_⟩
  | refine ⟨_, _, _, rfl, (by assumption), rfl, ?_⟩
  | refine Or.inl ⟨_, rfl, ?_⟩
  | refine Or.inr ⟨_, rfl, ?_⟩
  | refine ⟨_, _, rfl, (by walk_at "side"), ?_⟩
  | refine ⟨_, _, rfl, ?_⟩)
local macro_rules | `(tactic| walk_at "fld") => `(tactic| skip)
local macro_rules | `(tactic| walk_at "s") => `(tactic| repeat walk_at "1")
local macro_rules | `(tactic| walk_at "size") => `(tactic| first | exact Nat.le_of_ble_eq_true rfl | (simp only [List.length_map, List.length_append, List.length_cons, List.length_nil]; omega))
local macro_rules | `(tactic| walk_at "new") => `(tactic| (first | refine ⟨(by walk_at "size"), fun p hp => ?_⟩ | refine fun p hp => ?_); (generalize hq : upd _ p _ = H1); (obtain ⟨s, e⟩ := new_facts hp hq); clear hq)

structure RowMk2 (P : Program) (w : World) (K : PySem.W.Frag) (mg : Str → Option Value) (base : Heap) (C D : Addr) : Prop where
  ex : ∃ f fd ds, FnOk P w K mg base (L2.CX P w) 4 f fd ["self", "first", "again", "more"] (spInit C D) ∧ mg "Row" = some (.ref C) ∧ Mk K C f ∧ Binds K fd ["self", "first", "again", "more"] ds ∧ Vals [.int 0] ds
section
variable {P : Program} {w : World} {K : PySem.W.Frag} {mg : Str → Option Value} {base : Heap} {C D : Addr}
abbrev s_law : Stmt := topS 36
theorem sc_law : FnScope ["script", "box", "turn", "told", "odd"] ["script"] (defScope s_law) := ⟨rfl, rfl, rfl, by decide +kernel, rfl, by decide +kernel, by decide +kernel⟩
def spLaw (K : PySem.W.Frag) : Sp := fun vs H Q _ => ∃ (a : Addr) (ns : List Int), vs = [.ref a] ∧ SqL K H a (ns.map V.int) ∧ ns.length ≤ 63 ∧ ∀ H', Q (.bl true) H'
theorem hbad {H : Hp} {v1 v2 v3 : V} {f a : Arg} {m : El} {w : Str} (hF : ArgAt C H v1 f) (hA : ArgAt C H v2 a) (hM : ElAt H v3 m) (e : wordA f a m = some w) : HArg C H v1 v2 v3 (some w) := .inl ⟨f, a, m, w, hF, hA, hM, e, rfl⟩
theorem ov_rep (n : Nat) : List.replicate n V.non = (List.replicate n (none : Option Int)).map ov := by rw [List.map_replicate]; rfl
set_option maxHeartbeats 16000000 in
theorem ok_law {fa : Addr} {fd : FuncData} (F : Fun K "law" "law" s_law fa fd) (T : Txt mg) (RM : RowMk2 P w K mg base C D) (o_law_box : Own P w K mg base "_law_box" 1 ["script", "k"] (spBox K)) (o_law_take : Own P w K mg base "_law_take" 1 ["box", "many"] spTake)
    (o_law_pick : Own P w K mg base "_law_pick" 2 ["box", "some"] spPick) (o_law_row : Own P w K mg base "_law_row" 3 ["box", "is_low"] spRow) (o_law_heard : Own P w K mg base "_law_heard" 6 ["first", "again", "more"] (spHeard C))
    (o_law_any : Own P w K mg base "_law_any" 9 ["box", "deep"] (spAny 6)) (o_law_bent_right : Own P w K mg base "_law_bent_right" 7 ["box", "told"] spBent) : FnOk P w K mg base CX0 10 fa fd ["script"] (spLaw K) := by
  obtain ⟨fR, fdR, dsR, FR, mR, MR, bR1, vR1⟩ := RM.ex
  refine F.ok sc_law (fun vs H Q E h => ?_) (fun cdv A outer s H vs Q E hr h => ?_)
  · obtain ⟨_, _, rfl, _⟩ := h
    rfl
  · obtain ⟨a, ns, rfl, hS, hlen, k⟩ := h
    have h1000 : 1000 < sizeLine := small1000 (Nat.le_refl _)
    refine ⟨_, (pss_cons (ps_set (i := 1) sc_law.nd rfl (Or.inl rfl) (pe_own o_law_box (hr.mono (by decide)) (pa_cons (pv 0) (pa_cons pe_int pa_nil))))
  (pss_cons (ps_for PassesOwn.never rfl (pi_range1 (by rfl) T.range (pa_cons pe_int pa_nil)) (pg_name (i := 2) sc_law.nd rfl (Or.inl rfl))
    (C8.pss_cut (ps_set (i := 3) sc_law.nd rfl (Or.inl rfl) (pe_own o_law_row (hr.mono (by decide)) (pa_cons (pv 1) (pa_cons (pe_cmpR op_eq (pe_op op_mod (pv 2) pe_int) pe_int (nomark _)) pa_nil))))
      (C8.pss_cut (ps_if (PW.pt (pw_or (pt_cmpR op_notN (pe_own o_law_heard (hr.mono (by decide)) (pa_cons (pe_ix ix_tup (pv 3) pe_int (fun _ _ => rfl)) (pa_cons (pe_callTy call_tuple_of (by rfl) T.tuple (by decide +kernel) (pa_cons (pe_ix ix_tup (pv 3) pe_int (fun _ _ => rfl)) pa_nil)) (pa_cons (pe_ix ix_tup (pv 3) pe_int (fun _ _ => rfl)) pa_nil)))) pe_non (nomark _)) (pw_or1 (pt_not (pt_val (pe_own o_law_bent_right (hr.mono (by decide)) (pa_cons (pv 1) (pa_cons (pv 3) pa_nil))))))))
        (pss_one (ps_ret pe_bl))
        pss_nil)
      (C8.pss_cut (ps_set (i := 4) sc_law.nd rfl (Or.inl rfl) (pe_own o_law_pick (hr.mono (by decide)) (pa_cons (pv 1) (pa_cons (pe_lst (pa_cons pe_non (pa_cons pe_int (pa_cons pe_str (pa_cons pe_bl (pa_cons (pe_make MR FR (hr.mono (by decide)) rfl mR bR1 vR1 passL (pa_cons (pe_lst pa_nil) (pa_cons (pe_lst (pa_cons pe_int pa_nil)) pa_nil))) pa_nil)))))) pa_nil))))
      (C8.pss_cut (ps_if (PW.pt (pw_or (pt_cmpR op_ne (pe_own o_law_heard (hr.mono (by decide)) (pa_cons (pv 4) (pa_cons pe_non (pa_cons pe_non pa_nil)))) pe_str (nomark _)) (pw_or1 (pt_cmpR op_ne (pe_own o_law_heard (hr.mono (by decide)) (pa_cons (pe_lst pa_nil) (pa_cons (pv 4) (pa_cons pe_non pa_nil)))) pe_str (nomark _)))))
        (pss_one (ps_ret pe_bl))
        pss_nil)
      (C8.pss_cut (ps_if (pt_cmpR op_notIn_seq (pe_own o_law_heard (hr.mono (by decide)) (pa_cons (pe_own o_law_any (hr.mono (by decide)) (pa_cons (pv 1) (pa_cons pe_int pa_nil))) (pa_cons pe_non (pa_cons pe_non pa_nil)))) (pe_tup (pa_cons pe_str (pa_cons pe_str pa_nil))) (by with_unfolding_all rfl))
        (pss_one (ps_ret pe_bl))
        pss_nil)
      (C8.pss_cut (ps_if (pt_cmpR op_ne (pe_own o_law_heard (hr.mono (by decide)) (pa_cons (pe_lst (pa_cons (pe_own o_law_any (hr.mono (by decide)) (pa_cons (pv 1) (pa_cons pe_int pa_nil))) (pa_cons (pe_lst pa_nil) pa_nil))) (pa_cons (pe_lst (pa_cons pe_int pa_nil)) (pa_cons pe_int pa_nil)))) pe_str (nomark _))
        (pss_one (ps_ret pe_bl))
        pss_nil)
      (C8.pss_cut (ps_if (pt_cmpR op_ne (pe_own o_law_heard (hr.mono (by decide)) (pa_cons (pe_lst pa_nil) (pa_cons (pe_lst (pa_cons pe_int pa_nil)) (pa_cons (pe_own o_law_pick (hr.mono (by decide)) (pa_cons (pv 1) (pa_cons (pe_lst (pa_cons pe_non (pa_cons (pe_un un_neg pe_int) (pa_cons pe_str (pa_cons (pe_tup pa_nil) pa_nil))))) pa_nil))) pa_nil)))) pe_str (nomark _))
        (pss_one (ps_ret pe_bl))
        pss_nil)
      (pss_one (ps_if (pt_cmpR op_notN (pe_own o_law_heard (hr.mono (by decide)) (pa_cons (pe_op op_rep (pe_lst (pa_cons pe_non pa_nil)) (pe_own o_law_take (hr.mono (by decide)) (pa_cons (pv 1) (pa_cons pe_int pa_nil)))) (pa_cons (pe_op op_rep (pe_lst (pa_cons pe_non pa_nil)) (pe_op op_add pe_int (pe_own o_law_take (hr.mono (by decide)) (pa_cons (pv 1) (pa_cons pe_int pa_nil))))) (pa_cons pe_int pa_nil)))) pe_non (nomark _))
        (pss_one (ps_ret pe_bl))
        pss_nil))))))))))
  (pss_one (ps_ret pe_bl)))), ?_⟩
    refine ⟨_, rfl, ?_⟩
    refine ⟨a, ns, 0, rfl, hS, hlen, fun H1 b s1 nb hb1 => ?_⟩
    walk_at "s"
    refine ⟨by decide, by decide, for_range (lo := 0) (n := 8) (fun j σ H' => (∃ y3 y4 y5, σ = [some (.ref a), some (.ref b), y3, y4, y5]) ∧ BoxAt H' b) ⟨⟨_, _, _, rfl⟩, hb1⟩ ?_ ?_⟩
    · rintro j σ H2 hj ⟨⟨y3, y4, y5, rfl⟩, hb2⟩
      rw [Int.zero_add]
      refine ⟨fun σ' H' => ∃ p f e m, σ' = [some (.ref a), some (.ref b), some (.int (j : Nat)), some (.ref p), y5] ∧ BoxAt H' b ∧ ToldB b H' p f e m ∧ Shape f e m, ?_, ?_⟩
      · walk_at "s"
        refine fun H3 p f e m s3 b3 np tp S => ?_
        exact ⟨p, f, e, m, rfl, b3, tp, S⟩
      rintro σ' H3 ⟨p, f, e, m, rfl, hb3, tp, S⟩
      obtain ⟨lo, hi, R⟩ := S.rs
      refine ⟨fun σ' H' => (∃ y4, σ' = [some (.ref a), some (.ref b), some (.int (j : Nat)), y4, y5]) ∧ BoxAt H' b, ?_, ?_⟩
      · obtain ⟨pf, pa, n1, n2, n3, h1, h2, h3⟩ := id tp
        walk_at "s"
        walk_at "new"
        rename_i q nq H4 s4 e4
        have b4 := hb3.same s4
        have h1' := s4 _ _ h1
        walk_at "s"
        have lf := R.lf
        have la := R.la
        have m1 := R.m1
        refine ⟨.ref pf, .ref q, .int m, none, rfl, .inr ⟨pf, q, f, e, m, rfl, rfl, rfl, .inl (s4 _ _ h2), .inr e4, R.w_ok, R.ne, by omega, by omega, R.m0, by omega, rfl⟩, fun H5 s5 => ?_⟩
        walk_at "s"
        refine ⟨b, p, f, e, m, rfl, b4.same s5, (tp.bx (Bx.of (s4.trans s5))), S, fun H6 s6 b6 => ?_⟩
        walk_at "s"
        exact ⟨⟨_, rfl⟩, b6⟩
      rintro σ' H4 ⟨⟨y4, rfl⟩, hb4⟩
      refine ⟨fun σ' H' => (∃ v, σ' = [some (.ref a), some (.ref b), some (.int (j : Nat)), y4, some v] ∧ ArgAt C H' v none) ∧ BoxAt H' b, ?_, ?_⟩
      · walk_at "s"
        walk_at "new"
        rename_i q5 n5 H5 s5 e5
        walk_at "s"
        walk_at "new"
        rename_i q6 n6 H6 s6 e6
        intro x dx nx ndx nex
        have sx : Same H6 (upd (upd H6 dx (.own x)) x (.ins C dx [])) := fun b o e => by
          rw [upd_ne (ne_of_none e nx), upd_ne (ne_of_none e ndx)]
          exact e
        refine ⟨H6, x, dx, .ref q5, .ref q6, .int 0, rfl, nx, sx, upd_same, .inr ⟨q5, q6, [], [some 0], 0, rfl, rfl, rfl, .inl (s6 _ _ e5), .inl e6, w_null, fun z => (nomatch z), by decide, by decide, by decide, by decide, fun H7 s7 ⟨dx7, fs7, ex⟩ => ⟨rfl, ?_⟩⟩⟩
        have b7 : BoxAt H7 b := ((hb4.same s5).same s6).same s7
        have nxb : x ≠ b := ((hb4.same s5).same s6).ne nx
        walk_at "s"
        walk_at "new"
        rename_i q8 n8 H8 s8 e8
        have b8 := b7.same s8
        have n8b : q8 ≠ b := b7.ne n8
        have ex8 := s8 _ _ ex
        refine ⟨b, q8, _, rfl, b8, n8b, e8, (by show 0 < 5; decide), (by show 5 < 1000; decide), fun H9 y hy s9 b9 => ?_⟩
        refine ⟨⟨y, rfl, ?_⟩, b9⟩
        have ex9 := s9 _ _ nxb ex8
        simp only [List.mem_cons, List.not_mem_nil, or_false] at hy
        rcases hy with rfl | rfl | rfl | rfl | rfl
        · exact .non
        · exact .int _
        · exact .str _
        · exact .bl _
        · exact .obj ex9
      rintro σ' H5 ⟨⟨v, rfl, hv⟩, hb5⟩
      refine ⟨fun σ' H' => (∃ y5, σ' = [some (.ref a), some (.ref b), some (.int (j : Nat)), y4, y5]) ∧ BoxAt H' b, ?_, ?_⟩
      · refine ⟨_, rfl, ?_⟩
        refine ⟨v, .non, .non, some wF, rfl, hbad hv .non .non (word_first0 _ _), fun H6 s6 => ?_⟩
        walk_at "s"
        walk_at "new"
        rename_i q7 n7 H7 s7 e7
        have hv7 := (hv.same s6).same s7
        refine ⟨_, rfl, ?_⟩
        refine ⟨.ref q7, v, .non, some wA, rfl, hbad (.seq (.inl e7) .nil) hv7 .non (word_again0 (f := []) rfl _), fun H8 s8 => ?_⟩
        walk_at "s"
        exact ⟨⟨_, rfl⟩, ((hb5.same s6).same s7).same s8⟩
      rintro σ' H6 ⟨⟨y6, rfl⟩, hb6⟩
      refine ⟨fun σ' H' => (∃ y5, σ' = [some (.ref a), some (.ref b), some (.int (j : Nat)), y4, y5]) ∧ BoxAt H' b, ?_, ?_⟩
      · refine ⟨_, rfl, ?_⟩
        refine ⟨b, rfl, hb6, fun H7 v s7 b7 hv => ?_⟩
        obtain ⟨d, hd⟩ := hv.arg C
        rcases w_any d (some none) with ew | ew
        · refine ⟨v, .non, .non, some wF, rfl, hbad hd .non .non ew, fun H8 s8 => ?_⟩
          walk_at "s"
          walk_at "new"
          rename_i q9 n9 H9 s9 e9
          refine ⟨q9, _, rfl, .inr (SqT.of e9), rfl, rfl, ?_⟩
          refine ⟨_, rfl, iteF ?_⟩
          exact ⟨⟨_, rfl⟩, (b7.same s8).same s9⟩
        · refine ⟨v, .non, .non, some wA, rfl, hbad hd .non .non ew, fun H8 s8 => ?_⟩
          walk_at "s"
          walk_at "new"
          rename_i q9 n9 H9 s9 e9
          refine ⟨q9, _, rfl, .inr (SqT.of e9), rfl, rfl, ?_⟩
          refine ⟨_, rfl, iteF ?_⟩
          exact ⟨⟨_, rfl⟩, (b7.same s8).same s9⟩
      rintro σ' H7 ⟨⟨y7, rfl⟩, hb7⟩
      refine ⟨fun σ' H' => (∃ y5, σ' = [some (.ref a), some (.ref b), some (.int (j : Nat)), y4, y5]) ∧ BoxAt H' b, ?_, ?_⟩
      · refine ⟨_, rfl, ?_⟩
        refine ⟨b, rfl, hb7, fun H8 v s8 b8 hv => ?_⟩
        obtain ⟨ev, hev⟩ := hv.el.at
        walk_at "s"
        walk_at "new"
        rename_i q9 n9 H9 s9 e9
        walk_at "s"
        walk_at "new"
        rename_i q10 n10 H10 s10 e10
        walk_at "s"
        walk_at "new"
        rename_i q11 n11 H11 s11 e11
        have hev' := ((hev.same s9).same s10).same s11
        refine ⟨.ref q10, .ref q11, .int 0, some wF, rfl, hbad (.seq (.inl (s11 _ _ e10)) (.cons hev' (.cons (.seq (.inl (s11 _ _ (s10 _ _ e9)))) .nil))) (.seq (.inl e11) (.cons (.int 0) .nil)) (.int 0) (w_pair ev _ _), fun H12 s12 => ?_⟩
        walk_at "s"
        exact ⟨⟨_, rfl⟩, (((b8.same s9).same s10).same s11).same s12⟩
      rintro σ' H8 ⟨⟨y8, rfl⟩, hb8⟩
      refine ⟨fun σ' H' => (∃ y5, σ' = [some (.ref a), some (.ref b), some (.int (j : Nat)), y4, y5]) ∧ BoxAt H' b, ?_, ?_⟩
      · walk_at "s"
        walk_at "new"
        rename_i q9 n9 H9 s9 e9
        walk_at "s"
        walk_at "new"
        rename_i q10 n10 H10 s10 e10
        walk_at "s"
        walk_at "new"
        rename_i q11 n11 H11 s11 e11
        walk_at "s"
        walk_at "new"
        rename_i q12 n12 H12 s12 e12
        have b11 := ((hb8.same s9).same s10).same s11
        have b12 := b11.same s12
        have n9b : q9 ≠ b := hb8.ne n9
        have n10b : q10 ≠ b := (hb8.same s9).ne n10
        have n11b : q11 ≠ b := ((hb8.same s9).same s10).ne n11
        have n12b : q12 ≠ b := b11.ne n12
        refine ⟨b, q12, _, rfl, b12, n12b, e12, (by show 0 < 4; decide), (by show 4 < 1000; decide), fun H13 y hy s13 b13 => ?_⟩
        have c9 := s13 _ _ n9b (s12 _ _ (s11 _ _ (s10 _ _ e9)))
        have c10 := s13 _ _ n10b (s12 _ _ (s11 _ _ e10))
        have c11 := s13 _ _ n11b (s12 _ _ e11)
        have hy' : ∃ ey, ElAt H13 y ey ∧ ∀ k, ey = some (some k) → k < 0 := by
          simp only [List.mem_cons, List.not_mem_nil, or_false] at hy
          rcases hy with rfl | rfl | rfl | rfl
          · exact ⟨_, .non, fun k h => by injection h with h; cases h⟩
          · exact ⟨_, .int _, fun k h => by injection h with h; injection h with h; rw [← h]; decide⟩
          · exact ⟨_, .str _, fun k h => nomatch h⟩
          · exact ⟨_, .seq (.inr c11), fun k h => nomatch h⟩
        obtain ⟨ey, hey, hneg⟩ := hy'
        refine ⟨.ref q9, .ref q10, y, some wM, rfl, hbad (.seq (.inl c9) .nil) (.seq (.inl c10) (.cons (.int 0) .nil)) hey (w_zero hneg), fun H14 s14 => ?_⟩
        walk_at "s"
        exact ⟨⟨_, rfl⟩, b13.same s14⟩
      rintro σ' H9 ⟨⟨y9, rfl⟩, hb9⟩
      walk_at "s"
      walk_at "new"
      rename_i q1 n1 H10 s10 e1
      have b10 := hb9.same s10
      have n1b : q1 ≠ b := hb9.ne n1
      walk_at "s"
      refine ⟨by decide, b10, fun H11 t1 ht1 s11 b11 => ?_⟩
      have ht1' : t1 < 3 := ht1
      have c1 := s11 _ _ n1b e1
      walk_at "s"
      refine ⟨_, _, _, rfl, rfl, c1, by omega, by omega, ?_, ?_⟩
      · show 1 * ((t1 : Int)).toNat ≤ sizeLine
        omega
      walk_at "new"
      rename_i q2 n2 H12 s12 e2
      have b12 := b11.same s12
      have n2b : q2 ≠ b := b11.ne n2
      rw [List.flatten_replicate_singleton] at e2
      walk_at "s"
      walk_at "new"
      rename_i q3 n3 H13 s13 e3
      have b13 := b12.same s13
      have n3b : q3 ≠ b := b12.ne n3
      have c2 := s13 _ _ e2
      walk_at "s"
      refine ⟨by decide, b13, fun H14 t2 ht2 s14 b14 => ?_⟩
      have ht2' : t2 < 3 := ht2
      have c3 := s14 _ _ n3b e3
      have c2' := s14 _ _ n2b c2
      walk_at "s"
      refine ⟨_, _, _, rfl, rfl, c3, by omega, by omega, ?_, ?_⟩
      · show 1 * ((1 : Int) + (t2 : Int)).toNat ≤ sizeLine
        omega
      walk_at "new"
      rename_i q4 n4 H15 s15 e4
      rw [List.flatten_replicate_singleton] at e4
      have c2'' := s15 _ _ c2'
      walk_at "s"
      refine ⟨.ref q2, .ref q4, .int 0, none, rfl, .inr ⟨q2, q4, List.replicate t1 none, List.replicate (t2 + 1) none, 0, rfl, rfl, rfl, .inl ?_, .inl ?_, w_nothing t1 t2, fun z => (nomatch z), ?_, ?_, by decide, by decide, rfl⟩, fun H16 s16 => ?_⟩
      · rw [← ov_rep, c2'']
        rfl
      · rw [← ov_rep, e4, show (1 + (t2 : Int)).toNat = t2 + 1 by omega]
      · rw [List.length_replicate]
        omega
      · rw [List.length_replicate]
        omega
      walk_at "s"
      exact ⟨⟨_, _, _, rfl⟩, (b14.same s15).same s16⟩
    · rintro σ H2 ⟨⟨y3, y4, y5, rfl⟩, hb2⟩
      walk_at "s"
      exact k _
end
end My

set_option linter.all false
namespace My
open PySem PySem.Spec PyProof.Rows L2
section
variable {K : PySem.W.Frag} {h : Heap} {mg : Str → Option Value}
theorem df_mk {x : Str} {st : Stmt} {ps : List Str} {f : Addr} {oc : Value} {od an : Option Addr} {osl : Array (Option Value)} {kV doc pm cdv ct : Value} (X : K.In h) (G : h.Ns mainGlobals mg)
    (a : PySem.W.nsIn K mainGlobals x = some (some (.ref f)))
    (l : K.lookup f = some ⟨oc, od, .func (PySem.W.fnOf x x (defArgs st) (defBody st) (defScope st) .none kV doc pm an cdv ct), osl⟩) (c : PySem.W.codeIn K cdv x = true) (k : PySem.W.keepIn K (.ref f) = true)
    (hb : ∀ (kV doc pm : Value) (an : Option Addr) (cdv ct : Value) (us : List Value), us.length = ps.length → bindArgs (PySem.W.fnOf x x (defArgs st) (defBody st) (defScope st) .none kV doc pm an cdv ct) ⟨us, []⟩ = pure (ps.zip us)) : Df K mg x st ps :=
  ⟨f, _, fun_mk l c k, PySem.W.mg_of X G a, (fun_mk l c k).binds hb⟩
/-- the class of rows with its __init__, which has one default -/
structure DfI (K : PySem.W.Frag) (mg : Str → Option Value) (C : Addr) : Prop where
  ex : ∃ f fd ds, FunD K "__init__" "Row.__init__" (defArgs s_Row_init) (defBody s_Row_init) (defScope s_Row_init) [.int 0] [] f fd ∧ Mk K C f ∧ mg "Row" = some (.ref C) ∧ Binds K fd ["self", "first", "again", "more"] [] ∧ Binds K fd ["self", "first", "again", "more"] ds ∧ Vals [.int 0] ds
theorem dfi_mk {C Td : Addr} {u : Value} {f : Addr} {oc : Value} {od an : Option Addr} {osl : Array (Option Value)} {kV doc pm cdv ct : Value} {o : Obj} {n : Nat} (X : K.In h) (G : h.Ns mainGlobals mg)
    (aC : PySem.W.nsIn K mainGlobals "Row" = some (some (.ref C))) (a : PySem.W.findIn K (.ref C) "__init__" = some (some (.ref f))) (i : PySem.W.isFn K (.ref f) = true) (mk : PySem.W.makesIn K C = true) (kc : PySem.W.keepIn K (.ref C) = true)
    (l : K.lookup f = some ⟨oc, od, .func (PySem.W.fnOf "__init__" "Row.__init__" (defArgs s_Row_init) (defBody s_Row_init) (defScope s_Row_init) (.ref Td) kV doc pm an cdv ct), osl⟩) (lT : K.lookup Td = some o) (oT : o.data = .seq [u].toArray n) (ru : RelV (.int 0) u)
    (c : PySem.W.codeIn K cdv "Row.__init__" = true) (k : PySem.W.keepIn K (.ref f) = true) : DfI K mg C := by
  have F : FunD K "__init__" "Row.__init__" (defArgs s_Row_init) (defBody s_Row_init) (defScope s_Row_init) [.int 0] [] f (PySem.W.fnOf "__init__" "Row.__init__" (defArgs s_Row_init) (defBody s_Row_init) (defScope s_Row_init) (.ref Td) kV doc pm an cdv ct) :=
    ⟨⟨oc, od, .ref Td, kV, doc, pm, an, cdv, ct, osl, rfl, l, c, Or.inr ⟨by simp, Td, o, [u], n, rfl, lT, oT, .cons ru .nil⟩, Or.inl rfl⟩, k⟩
  obtain ⟨ds, v, b⟩ := F.binds1 (ps := ["self", "first", "again", "more"]) 4 1 (by simp) (by simp) (fun _ _ _ _ _ _ _ us its hl h1 => match us, hl, its, h1 with | [_, _, _, _], _, [_], _ => ⟨_, rfl, rfl⟩)
  cases v
  obtain ⟨ds1, v1, b1⟩ := F.binds1 (ps := ["self", "first", "again", "more"]) 3 0 (by simp) (by simp) (fun _ _ _ _ _ _ _ us its hl h1 => match us, hl, its, h1 with | [_, _, _], _, [_], _ => ⟨_, rfl, rfl⟩)
  exact ⟨f, _, ds1, F, ⟨mk, a, i, kc⟩, PySem.W.mg_of X G aC, b, b1, v1⟩
/-- the class of the error with its __init__ -/
structure DfE (K : PySem.W.Frag) (mg : Str → Option Value) (D : Addr) : Prop where
  ex : ∃ fI fd, OexC K D ∧ PySem.W.findIn K (.ref D) "__init__" = some (some (.ref fI)) ∧ PySem.W.typeIn K (.ref fI) = some (.type "function") ∧ Fun K "__init__" "InvalidRow.__init__" s_IR_init fI fd ∧ Binds K fd ["self", "word"] [] ∧ mg "InvalidRow" = some (.ref D)
theorem dfe_mk {D W f : Addr} {nm q : Str} {N : Addr} {bs : List Value} {sn : List Str} {sub : List Value} {ab : Bool} {col : Option Bool} {dd : Option Addr} {k0 k1 k2 k3 k5 : Option Value} {oc : Value} {od an : Option Addr} {osl : Array (Option Value)} {kV doc pm cdv ct : Value} (X : K.In h) (G : h.Ns mainGlobals mg)
    (aD : PySem.W.nsIn K mainGlobals "InvalidRow" = some (some (.ref D)))
    (xL : K.lookup D = some (excClassObj nm q D N bs [.ref W, .type "ValueError", .type "Exception", .type "BaseException", .type "object"] true sn sub ab col dd k0 k1 k2 k3 k5 "ValueError.__new__"))
    (sa : PySem.W.findIn K (.ref D) "__setattr__" = some (some (.builtin "object.__setattr__"))) (eC : PySem.W.subIn K (.ref D) (.type "BaseException") = some true) (tC : PySem.W.typeIn K (.ref D) = some (.type "type")) (kC : PySem.W.keepIn K (.ref D) = true)
    (a1 : PySem.W.findIn K (.ref D) "__init__" = some (some (.ref f))) (t1 : PySem.W.typeIn K (.ref f) = some (.type "function"))
    (l : K.lookup f = some ⟨oc, od, .func (PySem.W.fnOf "__init__" "InvalidRow.__init__" (defArgs s_IR_init) (defBody s_IR_init) (defScope s_IR_init) .none kV doc pm an cdv ct), osl⟩) (c : PySem.W.codeIn K cdv "InvalidRow.__init__" = true) (k : PySem.W.keepIn K (.ref f) = true) : DfE K mg D :=
  ⟨f, _, ⟨⟨nm, q, N, bs, _, sn, sub, ab, col, dd, k0, k1, k2, k3, k5, xL, rfl⟩, sa, eC, tC, kC⟩, a1, t1, fun_mk l c k, (fun_mk (st := s_IR_init) l c k).binds (fun _ _ _ _ _ _ us hl => match us, hl with | [_, _], _ => rfl), PySem.W.mg_of X G aD⟩
theorem kit_no {D M : Addr} (sD : PySem.W.subIn K (.ref D) (.ref D) = some true) (cM : PySem.W.isClsIn K M = true) (tM : PySem.W.typeIn K (.ref M) = some (.type "type")) (s : PySem.W.subIn K (.ref D) (.ref M) = some false) : PySem.W.kitOne K (.ref D) (.ref M) = some false := by
  have cM' : (PySem.W.clsIn K M).isSome = true := cM
  unfold PySem.W.kitOne
  rw [if_neg]
  · show (if ((PySem.W.clsIn K M).isSome && PySem.W.typeIn K (.ref M) == some (.type "type")) = true then PySem.W.subIn K (.ref D) (.ref M) else none) = some false
    rw [if_pos (by rw [cM', tM]; rfl)]
    exact s
  · intro q
    have e : D = M := Value.ref.inj (beq_iff_eq.mp q)
    subst e
    rw [sD] at s
    cases s
theorem kit_yes {D M : Addr} (cM : PySem.W.isClsIn K M = true) (tM : PySem.W.typeIn K (.ref M) = some (.type "type")) (s : PySem.W.subIn K (.ref D) (.ref M) = some true) : PySem.W.kitOne K (.ref D) (.ref M) = some true := by
  have cM' : (PySem.W.clsIn K M).isSome = true := cM
  unfold PySem.W.kitOne
  by_cases q : (Value.ref D == Value.ref M) = true
  · rw [if_pos q]
  · rw [if_neg q]
    show (if ((PySem.W.clsIn K M).isSome && PySem.W.typeIn K (.ref M) == some (.type "type")) = true then PySem.W.subIn K (.ref D) (.ref M) else none) = some true
    rw [if_pos (by rw [cM', tM]; rfl)]
    exact s
theorem kit_tyno {C : Addr} {x : String} (m : PySem.W.kitMeta x = true) (s : PySem.W.subIn K (.ref C) (.type x) = some false) : PySem.W.kitOne K (.ref C) (.type x) = some false := by
  unfold PySem.W.kitOne
  rw [if_neg (fun q => by cases beq_iff_eq.mp q)]
  show (if PySem.W.kitMeta x = true then PySem.W.subIn K (.ref C) (.type x) else none) = some false
  rw [if_pos m]
  exact s
theorem rc_mk {C : Addr} (pg : PySem.W.plainGet K C Str.empty = true) (hd : PySem.W.hasDictIn K C = true) (po : PySem.W.plainOver K C = true) (sa : PySem.W.findIn K (.ref C) "__setattr__" = some (some (.builtin "object.__setattr__")))
    (nF : PySem.W.findIn K (.ref C) "first" = some none) (nA : PySem.W.findIn K (.ref C) "again" = some none) (nM : PySem.W.findIn K (.ref C) "more" = some none) : RowCls K C := ⟨⟨pg, hd, po, sa⟩, nF, nA, nM⟩
theorem ri_mk {C : Addr} (R : RowCls K C) (ha : PySem.W.findIn K (.ref C) "__class__" = some (some (.builtin "object.__class__"))) (hn : PySem.W.specialIn K (.builtin "object.__class__") "__get__" = some (some (.builtin "getset_descriptor.__get__")))
    (ht : PySem.W.takesIn K (.builtin "object.__class__") = some true) (hm : PySem.W.mroIn K C (.type "object") = some true) (l : PySem.W.subIn K (.ref C) (.type "list") = some false) (t : PySem.W.subIn K (.ref C) (.type "tuple") = some false) : RowIs K C :=
  ⟨R.cl, ha, hn, ht, hm, kit_tyno (by decide +kernel) l, kit_tyno (by decide +kernel) t⟩
theorem hc_mk {D W M U : Addr} (X : K.In h) (G : h.Ns mainGlobals mg) (hg : PySem.W.findIn K (.ref D) "__getattribute__" = some (some (.builtin "BaseException.__getattribute__"))) (hk : PySem.W.findIn K (.ref D) "__getattr__" = some none)
    (hs : PySem.W.subIn K (.ref D) (.type "BaseException") = some true) (hd : PySem.W.hasDictIn K D = true) (ha : PySem.W.findIn K (.ref D) "__class__" = some (some (.builtin "object.__class__")))
    (hn : PySem.W.specialIn K (.builtin "object.__class__") "__get__" = some (some (.builtin "getset_descriptor.__get__"))) (ht : PySem.W.takesIn K (.builtin "object.__class__") = some true) (hm : PySem.W.mroIn K D (.type "object") = some true)
    (nw : PySem.W.findIn K (.ref D) "word" = some none) (tD : PySem.W.typeIn K (.ref D) = some (.type "type")) (sD : PySem.W.subIn K (.ref D) (.ref D) = some true)
    (gD : PySem.W.nsIn K mainGlobals "InvalidRow" = some (some (.ref D))) (gW : PySem.W.nsIn K mainGlobals "WaitError" = some (some (.ref W))) (gM : PySem.W.nsIn K mainGlobals "InvalidModule" = some (some (.ref M))) (gU : PySem.W.nsIn K mainGlobals "InvalidText" = some (some (.ref U)))
    (cW : PySem.W.isClsIn K W = true) (tW : PySem.W.typeIn K (.ref W) = some (.type "type")) (sW : PySem.W.subIn K (.ref D) (.ref W) = some true)
    (cM : PySem.W.isClsIn K M = true) (tM : PySem.W.typeIn K (.ref M) = some (.type "type")) (sM : PySem.W.subIn K (.ref D) (.ref M) = some false)
    (cU : PySem.W.isClsIn K U = true) (tU : PySem.W.typeIn K (.ref U) = some (.type "type")) (sU : PySem.W.subIn K (.ref D) (.ref U) = some false) : HeardC K mg D W M U :=
  ⟨⟨hg, hk, hs, hd, ha, hn, ht, hm⟩, nw, PySem.W.exm_ref hs hd tD sD, PySem.W.mg_of X G gD, PySem.W.mg_of X G gW, PySem.W.mg_of X G gM, PySem.W.mg_of X G gU, kit_yes cW tW sW, kit_no sD cM tM sM, kit_no sD cU tU sU⟩
end
theorem all_ok {P : Program} {w : World} {K : PySem.W.Frag} {mg : Str → Option Value} {C D W M U fa : Addr} (T : Txt mg) (R : RowCls K C) (RI : RowIs K C) (Z : HeardC K mg D W M U) (dI : DfI K mg C) (dE : DfE K mg D)
    (d0 : Df K mg "is_integer" s_is_integer ["value"]) (d1 : Df K mg "is_number" s_is_number ["value"]) (d2 : Df K mg "is_sequence" s_is_sequence ["value"]) (d3 : Df K mg "_rises" s_rises ["things"]) (d4 : Df K mg "_wrong_argument" s_wrong_argument ["first", "again", "more"]) (d5 : Df K mg "_shortest_turn" s_shortest_turn ["again", "more"]) (d6 : Df K mg "all_later" s_all_later ["things", "lasts"]) (d7 : Df K mg "_shortest_first" s_shortest_first ["things", "begin", "turn", "grow"]) (d8 : Df K mg "_law_box" s_law_box ["script", "k"]) (d9 : Df K mg "_law_take" s_law_take ["box", "many"]) (d10 : Df K mg "_law_pick" s_law_pick ["box", "some"]) (d11 : Df K mg "_law_row" s_law_row ["box", "is_low"]) (d12 : Df K mg "_law_any" s_law_any ["box", "deep"]) (d13 : Df K mg "_law_heard" s_law_heard ["first", "again", "more"]) (d14 : Df K mg "_law_bent_right" s_law_bent_right ["box", "told"]) {fd : FuncData} (F : Fun K "law" "law" s_law fa fd) (base : Heap) : FnOk P w K mg base CX0 10 fa fd ["script"] (spLaw K) := by
  have o1 : Own P w K mg base "is_integer" 1 ["value"] spIsInt := ok_is_integer d0 T
  have o2 : Own P w K mg base "is_number" 2 ["value"] spIsNum := ok_is_number d1 o1
  have o3 : Own P w K mg base "is_sequence" 1 ["value"] (spIsSeq C) := ok_is_sequence d2 T RI
  have o5 : Own P w K mg base "_rises" 2 ["things"] spRises := ok_rises d3 o1
  have o6 : Own P w K mg base "_wrong_argument" 3 ["first", "again", "more"] (spWrong C) := ok_wrong d4 T o2 o3 o5
  have o7 : Own P w K mg base "all_later" 1 ["things", "lasts"] (spAllLater K) := ok_all_later d6
  have o8 : Own P w K mg base "_shortest_turn" 2 ["again", "more"] spShortT := ok_shortest_turn d5 T o7
  have o9 : Own P w K mg base "_shortest_first" 2 ["things", "begin", "turn", "grow"] spShortF := ok_shortest_first d7 o7
  have oE : ErrC P w K mg base D (spErr D) := by
    obtain ⟨fI, fdI, h1, h2, h3, FI, h4, h5⟩ := dE.ex
    exact ⟨fI, fdI, h1, h2, h3, ok_err FI h1 Z.nw, h4, h5⟩
  obtain ⟨f1, fd1, ds, F1, M1, mC, b1, b2, v2⟩ := dI.ex
  have FI : FnOk P w K mg base (L2.CX P w) 4 f1 fd1 ["self", "first", "again", "more"] (spInit C D) := ok_init F1 R T oE o6 o8 o9
  have oT : Own P w K mg base "_law_take" 1 ["box", "many"] spTake := ok_take d9 T
  have oP : Own P w K mg base "_law_pick" 2 ["box", "some"] spPick := ok_pick d10 T oT
  have oH : Own P w K mg base "_law_heard" 6 ["first", "again", "more"] (spHeard C) := ok_heard d13 T Z ⟨f1, fd1, FI, mC, M1, b1⟩
  exact ok_law F T ⟨f1, fd1, ds, FI, mC, M1, b2, v2⟩ (ok_box d8 T) oT oP (ok_law_row d11 T oT oP) oH (ok_any d12 T oT oP 6) (ok_bent d14 T oT oH)
theorem end_mk {P : Program} {w : World} {K : PySem.W.Frag} {h : Heap} {mg : Str → Option Value} {C D W M U fa f : Addr} (X : K.In h) (G : h.Ns mainGlobals mg) (hfa : mg "law" = some (.ref fa))
    {oc : Value} {od an : Option Addr} {osl : Array (Option Value)} {kV doc pm cdv ct : Value} (dI : DfI K mg C) (dE : DfE K mg D)
    (a : PySem.W.nsIn K mainGlobals "law" = some (some (.ref f))) (l : K.lookup f = some ⟨oc, od, .func (PySem.W.fnOf "law" "law" (defArgs s_law) (defBody s_law) (defScope s_law) .none kV doc pm an cdv ct), osl⟩) (c : PySem.W.codeIn K cdv "law" = true) (k : PySem.W.keepIn K (.ref f) = true)
    (T : Txt mg) (R : RowCls K C) (RI : RowIs K C) (Z : HeardC K mg D W M U) (d0 : Df K mg "is_integer" s_is_integer ["value"]) (d1 : Df K mg "is_number" s_is_number ["value"]) (d2 : Df K mg "is_sequence" s_is_sequence ["value"]) (d3 : Df K mg "_rises" s_rises ["things"]) (d4 : Df K mg "_wrong_argument" s_wrong_argument ["first", "again", "more"]) (d5 : Df K mg "_shortest_turn" s_shortest_turn ["again", "more"]) (d6 : Df K mg "all_later" s_all_later ["things", "lasts"]) (d7 : Df K mg "_shortest_first" s_shortest_first ["things", "begin", "turn", "grow"]) (d8 : Df K mg "_law_box" s_law_box ["script", "k"]) (d9 : Df K mg "_law_take" s_law_take ["box", "many"]) (d10 : Df K mg "_law_pick" s_law_pick ["box", "some"]) (d11 : Df K mg "_law_row" s_law_row ["box", "is_low"]) (d12 : Df K mg "_law_any" s_law_any ["box", "deep"]) (d13 : Df K mg "_law_heard" s_law_heard ["first", "again", "more"]) (d14 : Df K mg "_law_bent_right" s_law_bent_right ["box", "told"]) :
    ∃ fd : FuncData, (∀ (s : Shared) (v : Value), BindsTo s fd ⟨[v], []⟩ [("script", v)]) ∧ ∀ base : Heap, K.In base → base.Ns mainGlobals mg → FnOk P w K mg base CX0 10 fa fd ["script"] (spLaw K) := by
  have e := hfa.symm.trans (PySem.W.mg_of X G a)
  cases e
  exact ⟨_, fun s v => .of_eq rfl, fun base _ _ => all_ok T R RI Z dI dE d0 d1 d2 d3 d4 d5 d6 d7 d8 d9 d10 d11 d12 d13 d14 (fun_mk (st := s_law) l c k) base⟩
end My

open PySem PySem.W PyProof.Rows in
set_option maxHeartbeats 0 in
theorem PySem.Challenge.cw_waitworks_k03_rows_refused_holds : PySem.Challenge.rw_waitworks_k03_rows_refused.Holds := by
  w_on; o_law; k_head; (case hw => w_witness2)
  k_fill
  refine L2.walk_of (l := PySem.Challenge.rw_waitworks_k03_rows_refused) (n := 63) (k := 10) (x := "script") (CX := fun _ => L2.CX0) (sp := fun w => My.spLaw _) rfl (by decide) rfl ⟨rfl, by decide, by decide⟩ (fun w h Y => PySem.W.kIn_of Y) ?F (fun _ _ a ns hl _ hS => ⟨a, ns, rfl, hS, hl, fun _ => rfl⟩) (fun _ _ _ _ _ h => h)
  case F =>
    intro w mg fa h KX G hmg
    refine' My.end_mk KX G hmg ?dI ?dE ?aL ?lL ?cL ?kL ?tx ?rc ?ri ?zhc ?d0 ?d1 ?d2 ?d3 ?d4 ?d5 ?d6 ?d7 ?d8 ?d9 ?d10 ?d11 ?d12 ?d13 ?d14
    (case dI => (refine' My.dfi_mk KX G ?aC ?a ?i ?mk ?kc ?l ?lT ?oT ⟨_, rfl⟩ ?c ?k); (case aC => k_is); (case a => k_is); (case i => k_is); (case mk => k_is); (case kc => k_is); (case l => k_is); (case lT => k_is); (case oT => rfl); (case c => k_is); (case k => k_is))
    (case dE => (refine' My.dfe_mk KX G ?aD ?xL ?sa ?eC ?tC ?kC ?a1 ?t1 ?l ?c ?k); (case aD => k_is); (case xL => k_is); (case sa => k_is); (case eC => k_is); (case tC => k_is); (case kC => k_is); (case a1 => k_is); (case t1 => k_is); (case l => k_is); (case c => k_is); (case k => k_is))
    (case aL => k_is)
    (case lL => k_is)
    (case cL => k_is)
    (case kL => k_is)
    (case tx => refine' ⟨mg_none_of KX G ?_, mg_none_of KX G ?_, mg_none_of KX G ?_, mg_none_of KX G ?_, mg_none_of KX G ?_, mg_none_of KX G ?_, mg_none_of KX G ?_, mg_none_of KX G ?_⟩ <;> k_is)
    (case rc => (refine' My.rc_mk ?pg ?hd ?po ?sa ?nF ?nA ?nM); (case pg => k_is); (case hd => k_is); (case po => k_is); (case sa => k_is); (case nF => k_is); (case nA => k_is); (case nM => k_is))
    (case ri => (refine' My.ri_mk (My.rc_mk ?pg ?hd ?po ?sa ?nF ?nA ?nM) ?ha ?hn ?ht ?hm ?l ?t); (case pg => k_is); (case hd => k_is); (case po => k_is); (case sa => k_is); (case nF => k_is); (case nA => k_is); (case nM => k_is); (case ha => k_is); (case hn => k_is); (case ht => k_is); (case hm => first | rfl | k_is); (case l => first | k_is | rfl); (case t => first | k_is | rfl))
    (case zhc => (refine' My.hc_mk KX G ?hg ?hk ?hs ?hd ?ha ?hn ?ht ?hm ?nw ?tD ?sD ?gD ?gW ?gM ?gU ?cW ?tW ?sW ?cM ?tM ?sM ?cU ?tU ?sU); (case gD => k_is); (case gW => k_is); (case gM => k_is); (case gU => k_is); (case hg => k_is); (case hk => k_is); (case hs => k_is); (case hd => k_is); (case ha => k_is); (case hn => k_is); (case ht => k_is); (case hm => first | rfl | k_is); (case nw => k_is); (case tD => k_is); (case sD => first | rfl | k_is); (case cW => k_is); (case tW => k_is); (case sW => first | rfl | k_is); (case cM => k_is); (case tM => k_is); (case sM => first | rfl | k_is); (case cU => k_is); (case tU => k_is); (case sU => first | rfl | k_is))
    (case d0 => (refine' My.df_mk KX G ?a ?l ?c ?k (fun _ _ _ _ _ _ us hl => match us, hl with | [_], _ => rfl)); (case a => k_is); (case l => k_is); (case c => k_is); (case k => k_is))
    (case d1 => (refine' My.df_mk KX G ?a ?l ?c ?k (fun _ _ _ _ _ _ us hl => match us, hl with | [_], _ => rfl)); (case a => k_is); (case l => k_is); (case c => k_is); (case k => k_is))
    (case d2 => (refine' My.df_mk KX G ?a ?l ?c ?k (fun _ _ _ _ _ _ us hl => match us, hl with | [_], _ => rfl)); (case a => k_is); (case l => k_is); (case c => k_is); (case k => k_is))
    (case d3 => (refine' My.df_mk KX G ?a ?l ?c ?k (fun _ _ _ _ _ _ us hl => match us, hl with | [_], _ => rfl)); (case a => k_is); (case l => k_is); (case c => k_is); (case k => k_is))
    (case d4 => (refine' My.df_mk KX G ?a ?l ?c ?k (fun _ _ _ _ _ _ us hl => match us, hl with | [_, _, _], _ => rfl)); (case a => k_is); (case l => k_is); (case c => k_is); (case k => k_is))
    (case d5 => (refine' My.df_mk KX G ?a ?l ?c ?k (fun _ _ _ _ _ _ us hl => match us, hl with | [_, _], _ => rfl)); (case a => k_is); (case l => k_is); (case c => k_is); (case k => k_is))
    (case d6 => (refine' My.df_mk KX G ?a ?l ?c ?k (fun _ _ _ _ _ _ us hl => match us, hl with | [_, _], _ => rfl)); (case a => k_is); (case l => k_is); (case c => k_is); (case k => k_is))
    (case d7 => (refine' My.df_mk KX G ?a ?l ?c ?k (fun _ _ _ _ _ _ us hl => match us, hl with | [_, _, _, _], _ => rfl)); (case a => k_is); (case l => k_is); (case c => k_is); (case k => k_is))
    (case d8 => (refine' My.df_mk KX G ?a ?l ?c ?k (fun _ _ _ _ _ _ us hl => match us, hl with | [_, _], _ => rfl)); (case a => k_is); (case l => k_is); (case c => k_is); (case k => k_is))
    (case d9 => (refine' My.df_mk KX G ?a ?l ?c ?k (fun _ _ _ _ _ _ us hl => match us, hl with | [_, _], _ => rfl)); (case a => k_is); (case l => k_is); (case c => k_is); (case k => k_is))
    (case d10 => (refine' My.df_mk KX G ?a ?l ?c ?k (fun _ _ _ _ _ _ us hl => match us, hl with | [_, _], _ => rfl)); (case a => k_is); (case l => k_is); (case c => k_is); (case k => k_is))
    (case d11 => (refine' My.df_mk KX G ?a ?l ?c ?k (fun _ _ _ _ _ _ us hl => match us, hl with | [_, _], _ => rfl)); (case a => k_is); (case l => k_is); (case c => k_is); (case k => k_is))
    (case d12 => (refine' My.df_mk KX G ?a ?l ?c ?k (fun _ _ _ _ _ _ us hl => match us, hl with | [_, _], _ => rfl)); (case a => k_is); (case l => k_is); (case c => k_is); (case k => k_is))
    (case d13 => (refine' My.df_mk KX G ?a ?l ?c ?k (fun _ _ _ _ _ _ us hl => match us, hl with | [_, _, _], _ => rfl)); (case a => k_is); (case l => k_is); (case c => k_is); (case k => k_is))
    (case d14 => (refine' My.df_mk KX G ?a ?l ?c ?k (fun _ _ _ _ _ _ us hl => match us, hl with | [_, _], _ => rfl)); (case a => k_is); (case l => k_is); (case c => k_is); (case k => k_is))
