import PyProof.Rows.All
import Wide.All
import OpenK.AllK
import Wide.FinOn
import HandS.ForMost
import HandS.Codes
import HandS.IsInst
import HandS.Property
import HandS.Star
import HandS.Gcd
import HandS.Defaults
import HandS.Walk
import HandS.Exc
import HandS.ExcInit
import HandS.Words
import HandS.Ends
import HandS.ExcIs
import HandS.ExcValue
import HandS.ExcField
import KE.KExcIs
import PySem.Challenge.RW_waitworks_k01_errors_and_what_they_keep
set_option Elab.async false
set_option maxRecDepth 100000
set_option autoImplicit false
namespace My
open PySem PySem.Spec PyProof.Rows L2
/-! ## general: either of two readings; defs and methods as one fact each; heaps -/
section
variable {X : Cx}
/-- either of two readings of an expression -/
theorem pe_alt {e : Expr} {t1 t2 : TE} (h1 : PE X e t1) (h2 : PE X e t2) : PE X e (fun σ H Q => t1 σ H Q ∨ t2 σ H Q) :=
  ⟨fun pins s σ H Q I h => h.elim (h1.run pins s σ H Q I) (h2.run pins s σ H Q I)⟩
theorem pi_alt {g e : Expr} {t1 t2 : TI} (h1 : PI X g e t1) (h2 : PI X g e t2) : PI X g e (fun σ H R => t1 σ H R ∨ t2 σ H R) :=
  ⟨fun pins s σ H R I h => h.elim (h1.run pins s σ H R I) (h2.run pins s σ H R I)⟩
theorem pss_alt {ss : List Stmt} {t1 t2 : TS} (h1 : PSs X ss t1) (h2 : PSs X ss t2) : PSs X ss (fun D σ H => t1 D σ H ∨ t2 D σ H) :=
  ⟨fun pins s σ H D I h => h.elim (h1.run pins s σ H D I) (h2.run pins s σ H D I)⟩
end
section
variable {P : Program} {w : World} {K : PySem.W.Frag} {mg : Str → Option Value} {base : Heap}
/-- the module's name x is a def that keeps a promise -/
structure Own (P : Program) (w : World) (K : PySem.W.Frag) (mg : Str → Option Value) (base : Heap) (x : Str) (k : Nat) (ps : List Str) (sp : Sp) : Prop where
  ex : ∃ f fd, FnOk P w K mg base CX0 k f fd ps sp ∧ mg x = some (.ref f) ∧ PySem.W.keepIn K (.ref f) = true ∧ Binds K fd ps []
/-- the module's name x is the def st -/
structure Df (K : PySem.W.Frag) (mg : Str → Option Value) (x : Str) (st : Stmt) (ps : List Str) : Prop where
  ex : ∃ f fd, Fun K x x st f fd ∧ mg x = some (.ref f) ∧ Binds K fd ps []
theorem Df.own {x : Str} {st : Stmt} {ps N : List Str} {k : Nat} {sp : Sp} (D : Df K mg x st ps) (S : FnScope N ps (defScope st)) (len : ∀ vs H Q E, sp vs H Q E → vs.length = ps.length)
    (hbody : ∀ (f : Addr) (cdv : Value) (A : Around) (outer : List Env) (s : Shared) (H : Hp) (vs : List V) (Q : VK) (E : XK), Room k (A.deeper (envOfC x (defScope st) s.heap.objs.size f cdv)) → sp vs H Q E →
      ∃ t, PSs (cxOf CX0 P w K mg base N x (defScope st) f cdv A outer s H E).nox (defBody st) t ∧ t { nx := fun _ H' => Q .non H', rt := Q } (start N vs) H) : Own P w K mg base x (k + 1) ps sp := by
  obtain ⟨f, fd, F, m, b⟩ := D.ex
  exact ⟨f, fd, F.ok S len (hbody f), m, F.kp, b⟩
theorem Own.imp {x : Str} {k j : Nat} {ps : List Str} {sp sp' : Sp} (O : Own P w K mg base x k ps sp) (hk : k ≤ j) (h : ∀ vs H Q E, sp' vs H Q E → sp vs H Q E) : Own P w K mg base x j ps sp' := by
  obtain ⟨f, fd, F, r⟩ := O.ex
  exact ⟨f, fd, (F.mono hk).imp h, r⟩
/-- a method of the class at C -/
structure Mth (P : Program) (w : World) (K : PySem.W.Frag) (mg : Str → Option Value) (base : Heap) (C : Addr) (m : Str) (k : Nat) (ps : List Str) (sp : Sp) : Prop where
  ex : ∃ f fd, FnOk P w K mg base CX0 k f fd ps sp ∧ Meth K C m f ∧ Binds K fd ps []
structure Prp (P : Program) (w : World) (K : PySem.W.Frag) (mg : Str → Option Value) (base : Heap) (C : Addr) (m : Str) (k : Nat) (ps : List Str) (sp : Sp) : Prop where
  ex : ∃ p f fd, FnOk P w K mg base CX0 k f fd ps sp ∧ PropOf K C m p f ∧ Binds K fd ps []
/-- the module's name x is a class whose __init__ keeps a promise -/
structure Mks (P : Program) (w : World) (K : PySem.W.Frag) (mg : Str → Option Value) (base : Heap) (x : Str) (C : Addr) (k : Nat) (ps : List Str) (sp : Sp) : Prop where
  ex : ∃ f fd, FnOk P w K mg base CX0 k f fd ps sp ∧ mg x = some (.ref C) ∧ Mk K C f ∧ Binds K fd ps []
end
section
variable {X : Cx} {x m : Str} {p pos apos : Pos} {e o : Expr} {es : List Expr} {t : TA} {ta : TE} {k : Nat} {ps : List Str} {sp : Sp} {C : Addr}
theorem pe_own (O : Own X.prog X.w X.K X.mg X.base x k ps sp) (hr : Room k X.A) (ha : PA X (e :: es) t) (hg : Gl X x := by exact rfl) (hdb : (x == ("__debug__" : Str)) = false := by decide)
    (he : starEach (e :: es) X.env = (false, eval e X.env) :: starEach es X.env := by rfl) (hpl : (backTo pos (starEach es X.env)).any (·.1) = false := by rfl) : PE X (.Call (.Name x p) (e :: es) [] pos) (tCall sp [] E0 t) := by
  obtain ⟨f, fd, G, hm, hk, hb⟩ := O.ex
  exact pe_call G hr hg hm hk hb .nil pass0 ha hdb he hpl
theorem pe_own0 (O : Own X.prog X.w X.K X.mg X.base x k ps sp) (hr : Room k X.A) (hg : Gl X x := by exact rfl) (hdb : (x == ("__debug__" : Str)) = false := by decide) : PE X (.Call (.Name x p) [] [] pos) (tCall sp [] E0 tNil) := by
  obtain ⟨f, fd, G, hm, hk, hb⟩ := O.ex
  exact pe_call0 G hr hg hm hk hb .nil pass0 hdb
theorem pe_mks (O : Mks X.prog X.w X.K X.mg X.base x C k ps sp) (hr : Room (k + 1) X.A) (ha : PA X (e :: es) t) (hg : Gl X x := by exact rfl) (hdb : (x == ("__debug__" : Str)) = false := by decide)
    (he : starEach (e :: es) X.env = (false, eval e X.env) :: starEach es X.env := by rfl) (hpl : (backTo pos (starEach es X.env)).any (·.1) = false := by rfl) : PE X (.Call (.Name x p) (e :: es) [] pos) (tMake C sp [] E0 t) := by
  obtain ⟨f, fd, G, hm, M, hb⟩ := O.ex
  exact pe_make M G hr hg hm hb .nil pass0 ha hdb he hpl
theorem pe_mth (c : Cls X.K C) (O : Mth X.prog X.w X.K X.mg X.base C m k ps sp) (hr : Room k X.A) (he : PE X o ta) (ha : PA X (e :: es) t)
    (hst : starEach (e :: es) X.env = (false, eval e X.env) :: starEach es X.env := by rfl) (hpl : (backTo pos (starEach es X.env)).any (·.1) = false := by rfl)
    {pl : Sem Bool} (ht : eval (.Call (.Attribute o m apos) (e :: es) [] pos) X.env = (do
      let ov ← eval o X.env
      standAt apos.atName
      let (f, first) ← holding [ov] (getMethod ov m pl)
      callWith pos f first (backTo pos (starEach (e :: es) X.env)) (backToKw pos (keywordEach [] X.env))) := by rfl) : PE X (.Call (.Attribute o m apos) (e :: es) [] pos) (tMeth C m sp [] E0 ta t) := by
  obtain ⟨f, fd, G, M, hb⟩ := O.ex
  exact pe_meth he c M G hr hb .nil pass0 ha hst hpl ht
theorem pe_prp (c : Cls X.K C) (O : Prp X.prog X.w X.K X.mg X.base C m k ps sp) (hr : Room (k + 1) X.A) (he : PE X o ta) (hab : attributeBase o m X.env (eval o X.env) = eval o X.env := by rfl) : PE X (.Attribute o m pos) (tProp C sp [] E0 ta) := by
  obtain ⟨q, f, fd, G, M, hb⟩ := O.ex
  exact pe_prop he c M G hr hb .nil pass0 hab
end
/-! ## heaps -/
theorem same_upd {H : Hp} {p : Addr} {o : HO} (h : H p = none) : Same H (upd H p o) := fun b x e => by
  rw [upd_ne (ne_of_none e h)]
  exact e
theorem _root_.L2.Same.seqT {K : PySem.W.Frag} {H H' : Hp} {a : Addr} {xs : List V} (e : Same H H') (h : SqT K H a xs) : SqT K H' a xs := by
  rcases h with (h | ⟨o, h⟩) | h
  · exact .inl (.inl (e _ _ h))
  · exact .inl (.inr ⟨o, e _ _ h⟩)
  · exact .inr h
theorem new_lst {Q : VK} {xs : List V} {H : Hp} (hl : xs.length ≤ sizeLine) (h : ∀ p H', Same H H' → H p = none → H' p = some (.lst xs) → Q (.ref p) H') : xs.length ≤ sizeLine ∧ ∀ p, H p = none → Q (.ref p) (upd H p (.lst xs)) :=
  ⟨hl, fun p hp => h p _ (same_upd hp) hp upd_same⟩
theorem new_tup {Q : VK} {xs : List V} {H : Hp} (hl : xs.length ≤ sizeLine) (h : ∀ p H', Same H H' → H p = none → H' p = some (.tup xs) → Q (.ref p) H') : xs.length ≤ sizeLine ∧ ∀ p, H p = none → Q (.ref p) (upd H p (.tup xs)) :=
  ⟨hl, fun p hp => h p _ (same_upd hp) hp upd_same⟩
theorem new_o {Q : VK} {o : HO} {H : Hp} (h : ∀ p H', Same H H' → H p = none → H' p = some o → Q (.ref p) H') : ∀ p, H p = none → Q (.ref p) (upd H p o) :=
  fun p hp => h p _ (same_upd hp) hp upd_same
end My
namespace My
open PySem PySem.Spec PyProof.Rows L2
/-! ## readings in one step -/
theorem rd_isi {K : PySem.W.Frag} {H : Hp} {Q : VK} {x : V} {m : String} (n : String) (b : Bool) (ty : TyX K H x (.type n)) (h : kitB n m = some b) (q : Q (.bl b) H) : rIsi K [x, .ty m] H Q :=
  ⟨_, _, _, _, _, rfl, .ty _, ty, kit_ty h, q⟩
theorem rd_isi2 {K : PySem.W.Frag} {H : Hp} {Q : VK} {x : V} {m m' : String} {tp : Addr} (n : String) (b b' : Bool) (ht : H tp = some (.tup [.ty m, .ty m'])) (ty : TyX K H x (.type n)) (h : kitB n m = some b) (h' : kitB n m' = some b') (q : Q (.bl (b || b')) H) : rIsiT K [x, .ref tp] H Q :=
  ⟨_, _, _, _, _, _, rfl, ht, .cons (.ty _) (.cons (.ty _) .nil), ty, kitAny_cons (kit_ty h) (fun e => kitAny_cons (r := b || b') (kit_ty h') (fun e' => by rw [e, e']; rfl) (fun e' => by rw [e, e']; rfl)) (fun e => by rw [e]; rfl), q⟩
end My
namespace My
open PySem PySem.Spec PyProof.Rows L2
/-! ## a list or a tuple -/
def SqS (K : PySem.W.Frag) (H : Hp) (a : Addr) (xs : List V) : Prop := SqL K H a xs ∨ SqT K H a xs
theorem _root_.L2.Same.sqs {K : PySem.W.Frag} {H H' : Hp} {a : Addr} {xs : List V} (e : Same H H') (h : SqS K H a xs) : SqS K H' a xs := h.imp e.seq e.seqT
/-- how a walk over such a thing goes, as long as what is tracked in H0 stands -/
structure SeqIt (H0 : Hp) (xs : List V) (J : It) : Prop where
  go : ∀ i H, Same H0 H → i < xs.length → J.go i H
  yld : ∀ i H x H', Same H0 H → J.yld i H x H' → H' = H ∧ xs[i]? = some x
  stop : ∀ i H, Same H0 H → xs.length ≤ i → J.stop i H
theorem seqIt_l {K : PySem.W.Frag} {H0 : Hp} {a : Addr} {xs : List V} (h : SqL K H0 a xs) : SeqIt H0 xs (Itl K a) :=
  ⟨fun i H s l => ⟨xs, xs[i], s.seq h, by simp [l]⟩, fun i H x H' s y => ⟨y.1, y.2 xs (s.seq h)⟩, fun i H s l => ⟨xs, s.seq h, l⟩⟩
theorem seqIt_t {K : PySem.W.Frag} {H0 : Hp} {a : Addr} {xs : List V} (h : SqT K H0 a xs) : SeqIt H0 xs (Itt K a) :=
  ⟨fun i H s l => ⟨xs, xs[i], s.seqT h, by simp [l]⟩, fun i H x H' s y => ⟨y.1, y.2 xs (s.seqT h)⟩, fun i H s l => ⟨xs, s.seqT h, l⟩⟩
theorem seq_pi {K : PySem.W.Frag} {a : Addr} {xs : List V} {i : Nat} {σ : L2.St} {H : Hp} {R : It → Hp → Prop} (h : SqS K H a xs) (hv : σ[i]? = some (some (.ref a))) (hR : ∀ J, SeqIt H xs J → R J H) : iList K (tVar i) σ H R ∨ iTup K (tVar i) σ H R :=
  h.elim (fun h => Or.inl ⟨_, hv, a, rfl, ⟨_, h⟩, hR _ (seqIt_l h)⟩) fun h => Or.inr ⟨_, hv, a, rfl, ⟨_, h⟩, hR _ (seqIt_t h)⟩
theorem for_seq {J : It} {H0 : Hp} {xs : List V} {g : TG} {tb : TS} {D : Ends} {σ : L2.St} {H : Hp} (hJ : SeqIt H0 xs J) (Pv : Nat → L2.St → Hp → Prop) (h0 : Pv 0 σ H) (hl : ∀ i σ H, Pv i σ H → Same H0 H)
    (hs : ∀ i x σ H, xs[i]? = some x → Pv i σ H → g x σ H fun σ2 H2 => tb { D with nx := Pv (i + 1), ct := Pv (i + 1), bk := D.nx } σ2 H2) (hd : ∀ σ H, Pv xs.length σ H → D.nx σ H) :
    ∃ W : Nat → Nat → L2.St → Hp → Prop, (∃ m, W 0 m σ H) ∧ ∀ i m σ H, W i m σ H →
      (J.stop i H ∧ D.nx σ H) ∨ (J.go i H ∧ ∃ N : L2.St → Hp → Prop, (∀ σ' H', N σ' H' → ∃ m', m' < m ∧ W (i + 1) m' σ' H') ∧ ∀ x H', J.yld i H x H' → g x σ H' fun σ2 H2 => tb { D with nx := N, ct := N, bk := D.nx } σ2 H2) := by
  refine ⟨fun i m σ H => m + i = xs.length ∧ Pv i σ H, ⟨xs.length, by omega, h0⟩, fun i m σ H q => ?_⟩
  obtain ⟨em, p⟩ := q
  have s := hl i σ H p
  by_cases hlt : i < xs.length
  · refine Or.inr ⟨hJ.go i H s hlt, Pv (i + 1), fun σ' H' p' => ⟨m - 1, by omega, by omega, p'⟩, fun x H' y => ?_⟩
    obtain ⟨rfl, e⟩ := hJ.yld i H x H' s y
    exact hs i x _ _ e p
  · have e : i = xs.length := by omega
    subst e
    exact Or.inl ⟨hJ.stop _ H s (Nat.le_refl _), hd _ _ p⟩
theorem lc_seq {J : It} {H0 : Hp} {xs : List V} {g : TG} {tt : TT} {te : TE} {vs : List Nat} {σ : L2.St} {H1 : Hp} {D : Addr} {Qd : Hp → Prop} (hJ : SeqIt H0 xs J) (Pv : Nat → Hp → Prop) (h0 : Pv 0 (upd H1 D (.lst []))) (hl : ∀ i H, Pv i H → Same H0 H)
    (hs : ∀ i x H, xs[i]? = some x → Pv i H → g x (wipe σ vs) H fun σ2 H2 => wipe σ2 vs = wipe σ vs ∧ tt σ2 H2 fun b H3 =>
      if b = true then te σ2 H3 fun y H4 => ∃ acc, H4 D = some (.lst acc) ∧ acc.length < sizeLine ∧ Pv (i + 1) (upd H4 D (.lst (acc ++ [y]))) else Pv (i + 1) H3) (hd : ∀ H, Pv xs.length H → Qd H) :
    ∃ W : Nat → Nat → Hp → Prop, (∃ m, W 0 m (upd H1 D (.lst []))) ∧ ∀ i m H, W i m H →
      (J.stop i H ∧ Qd H) ∨ (J.go i H ∧ ∃ Nx : Hp → Prop, (∀ H', Nx H' → ∃ m', m' < m ∧ W (i + 1) m' H') ∧ ∀ x H', J.yld i H x H' → g x (wipe σ vs) H' fun σ2 H2 => wipe σ2 vs = wipe σ vs ∧ tt σ2 H2 fun b H3 =>
        if b = true then te σ2 H3 fun y H4 => ∃ acc, H4 D = some (.lst acc) ∧ acc.length < sizeLine ∧ Nx (upd H4 D (.lst (acc ++ [y]))) else Nx H3) := by
  refine ⟨fun i m H => m + i = xs.length ∧ Pv i H, ⟨xs.length, by omega, h0⟩, fun i m H q => ?_⟩
  obtain ⟨em, p⟩ := q
  have s := hl i H p
  by_cases hlt : i < xs.length
  · refine Or.inr ⟨hJ.go i H s hlt, Pv (i + 1), fun H' p' => ⟨m - 1, by omega, by omega, p'⟩, fun x H' y => ?_⟩
    obtain ⟨rfl, e⟩ := hJ.yld i H x H' s y
    exact hs i x _ e p
  · have e : i = xs.length := by omega
    subst e
    exact Or.inl ⟨hJ.stop _ H s (Nat.le_refl _), hd _ p⟩
theorem new_facts {H H1 : Hp} {p : Addr} {o : HO} (hp : H p = none) (hq : upd H p o = H1) : Same H H1 ∧ H1 p = some o := by
  subst hq
  exact ⟨same_upd hp, upd_same⟩
theorem _root_.L2.Same.upd1 {H0 H : Hp} {p : Addr} {o : HO} (s : Same H0 H) (hp : H0 p = none) : Same H0 (upd H p o) := fun b x e => by
  rw [upd_ne (ne_of_none e hp)]
  exact s _ _ e
end My

namespace My
open PySem PySem.Spec PyProof.Rows L2
theorem Same.at {H H' : Hp} {a : Addr} {o : HO} (e : Same H H') (h : H a = some o) : H' a = some o := e _ _ h
/-- a comprehension's new list: what f gives of the turns so far -/
structure LcP (H1 : Hp) (D : Addr) (f : Nat → Option V) (i : Nat) (H : Hp) : Prop where
  same : Same H1 H
  lst : H D = some (.lst ((List.range i).filterMap f))
theorem fm_len (f : Nat → Option V) (i : Nat) : ((List.range i).filterMap f).length ≤ i := by
  have := List.length_filterMap_le f (List.range i)
  rw [List.length_range] at this
  exact this
theorem LcP.zero {H1 : Hp} {D : Addr} {f : Nat → Option V} (n : H1 D = none) : LcP H1 D f 0 (upd H1 D (.lst [])) := ⟨same_upd n, upd_same⟩
theorem LcP.yes {H1 H H4 : Hp} {D : Addr} {f : Nat → Option V} {i : Nat} {y : V} (p : LcP H1 D f i H) (s : Same H H4) (n : H1 D = none) (hi : i < sizeLine) (e : f i = some y) :
    ∃ acc, H4 D = some (.lst acc) ∧ acc.length < sizeLine ∧ LcP H1 D f (i + 1) (upd H4 D (.lst (acc ++ [y]))) := by
  refine ⟨_, s _ _ p.lst, Nat.lt_of_le_of_lt (fm_len f i) hi, (p.same.trans s).upd1 n, ?_⟩
  rw [upd_same, List.range_succ, List.filterMap_append, List.filterMap_cons, e, List.filterMap_nil]
theorem LcP.no {H1 H H3 : Hp} {D : Addr} {f : Nat → Option V} {i : Nat} (p : LcP H1 D f i H) (s : Same H H3) (e : f i = none) : LcP H1 D f (i + 1) H3 := by
  refine ⟨p.same.trans s, ?_⟩
  rw [s _ _ p.lst, List.range_succ, List.filterMap_append, List.filterMap_cons, e, List.filterMap_nil, List.append_nil]
theorem fm_join {β : Type} : ∀ (zs : List (Option β)), (List.range zs.length).filterMap (fun i => (zs[i]?).join) = zs.filterMap id
  | [] => rfl
  | z :: zs => by
    rw [List.length_cons, List.range_succ_eq_map, List.filterMap_cons, List.filterMap_map]
    have e : (fun (j : Nat) => ((z :: zs)[j]?).join) ∘ Nat.succ = fun (j : Nat) => (zs[j]?).join := by
      funext j
      rfl
    rw [e, fm_join zs]
    cases z <;> rfl
theorem fm_opt {α β : Type} (xs : List α) (g : α → Option β) : (List.range xs.length).filterMap (fun i => (xs[i]?).bind g) = xs.filterMap g := by
  have e : (fun (i : Nat) => (xs[i]?).bind g) = fun (i : Nat) => ((xs.map g)[i]?).join := by
    funext i
    rw [List.getElem?_map]
    cases xs[i]? <;> rfl
  rw [e, show xs.length = (xs.map g).length from (List.length_map ..).symm, fm_join, List.filterMap_map]
  rfl
theorem fm_get {α β : Type} (xs : List α) (g : α → β) : (List.range xs.length).filterMap (fun i => (xs[i]?).map g) = xs.map g := by
  have e : (fun (i : Nat) => (xs[i]?).map g) = fun (i : Nat) => (xs[i]?).bind fun x => some (g x) := by
    funext i
    cases xs[i]? <;> rfl
  rw [e, fm_opt]
  exact congrFun (List.filterMap_eq_map (f := g)) xs
theorem fm_if {α β : Type} (xs : List α) (p : α → Bool) (g : α → β) : (List.range xs.length).filterMap (fun i => (xs[i]?).bind fun x => if p x = true then some (g x) else none) = (xs.filter p).map g := by
  rw [fm_opt]
  induction xs with
  | nil => rfl
  | cons x xs ih =>
    by_cases c : p x = true
    · rw [List.filterMap_cons, if_pos c, List.filter_cons_of_pos c, List.map_cons, ih]
    · rw [List.filterMap_cons, if_neg c, List.filter_cons_of_neg c, ih]
end My

set_option maxHeartbeats 2000000
/-! An own error class with an own __init__, called with any arguments and keywords, over any built-in base. -/
namespace MyX
open PySem PySem.W PySem.Calls PyProof.Rows PySem.HandSPX PySem.Spec
/-- the class whose mro's rest is bm lies over the built-in error B -/
structure BaseIn (B nid iid : String) (bmB bm : List Value) : Prop where
  F : ExcBaseFacts B nid iid bmB
  hB : bm.contains (.type B) = true
  hA : bm.contains (.type "AttributeError") = false
  hN : bm.contains (.type "NameError") = false
/-- .. and B's steps with a class at C -/
theorem BaseIn.sub {B nid iid : String} {bmB bm : List Value} (Y : BaseIn B nid iid bmB bm) (C : Addr) : (Value.ref C :: bm).contains (.type B) = true := by
  rw [List.contains_cons, Y.hB, Bool.or_true]
theorem BaseIn.subA {B nid iid : String} {bmB bm : List Value} (Y : BaseIn B nid iid bmB bm) (C : Addr) : (Value.ref C :: bm).contains (.type "AttributeError") = false := by
  rw [List.contains_cons, Y.hA]; rfl
theorem BaseIn.subN {B nid iid : String} {bmB bm : List Value} (Y : BaseIn B nid iid bmB bm) (C : Addr) : (Value.ref C :: bm).contains (.type "NameError") = false := by
  rw [List.contains_cons, Y.hN]; rfl
/-- what stands at C -/
abbrev Lies (hp : Heap) (C : Addr) (nid : String) (bm : List Value) : Prop := ∃ nm q N bs hdct sn sub ab col dd k0 k1 k2 k3 k5, hp.get? C = some (excClassObj nm q C N bs bm hdct sn sub ab col dd k0 k1 k2 k3 k5 nid)

section
variable {M : Model} {A : Around} {E : Value → Shared → Prop} {hp : Heap} {gs : Array GenState} {dr : Drawn} {tk : Nat} {os : OsState}
variable {C : Addr} {bm bmB : List Value} {B nid iid : String}
/-- .. the call of the base's __new__ is admitted -/
theorem see_new (Y : BaseIn B nid iid bmB bm) {xs : List Value} {kw : List (Str × Value)} {T : Unit → Shared → Prop} (cl : Lies hp C nid bm) (go : T () ⟨hp, gs, dr, tk, os⟩) :
    wpAny M A (checkBuiltinCall nid ⟨.ref C :: xs, kw⟩) T E ⟨hp, gs, dr, tk, os⟩ := by
  obtain ⟨nm, q, N, bs, hdct, sn, sub, ab, col, dd, k0, k1, k2, k3, k5, at1⟩ := cl
  have F := Y.F
  have y1 := Y.sub C
  have y2 := F.noStar
  simp only [checkBuiltinCall, F.newKind, F.newSplit, F.newRow]
  repeat (first | refine wpAny_loadPart_at at1 ?_ | (refine wpAny_isSubtype_exc at1 ?_; rw [y1]) | refine wpAny_staticBase_exc at1 ?_ | refine wpAny_madeBy_exc at1 ?_ | simp only [bne_self_eq_false, Bool.false_eq_true, if_false] | wp_step)
  exact go
end

section
variable {prog : Program} {w : World} {A : Around} {E : Value → Shared → Prop} {R : Result → Shared → Prop} {hp : Heap} {gs : Array GenState} {dr : Drawn} {tk : Nat} {os : OsState}
variable {C : Addr} {bm bmB : List Value} {B nid iid : String}
/-- the heap with the error's argument tuple and the error -/
abbrev withErr (hp : Heap) (xs : List Value) (C : Addr) : Heap := (hp.push (W.kdv_tup xs)).push (excO C hp.objs.size)
theorem run_new (Y : BaseIn B nid iid bmB bm) {xs : List Value} {kw : List (Str × Value)} (cl : Lies hp C nid bm) (sz : xs.length ≤ sizeLine)
    (go : R (.ok (.ret (.ref (hp.objs.size + 1)))) ⟨withErr hp xs C, gs, dr, tk, os⟩) : codeAny (model prog w) A (.builtin nid ⟨.ref C :: xs, kw⟩) R ⟨hp, gs, dr, tk, os⟩ := by
  obtain ⟨nm, q, N, bs, hdct, sn, sub, ab, col, dd, k0, k1, k2, k3, k5, at1⟩ := cl
  have F := Y.F
  have y0 := F.ends
  have y1 := Y.sub C
  have y2 := Y.subA C
  have y3 := Y.subN C
  refine codeAny_builtinAt F.entry ?_
  delta Builtin.«BaseException.__new__»
  refine PySem.wpAt_bind (id ?_)
  show PySem.wpAt _ _ _ (stack >>= _) _ _ _
  refine PySem.wpAt_bind (PySem.wpAt_stack fun p q => PySem.wpAt_of_wpAny (id ?_))
  wp_walk
  refine PySem.wpAt_of_wpAny (id ?_)
  rw [F.owner]
  repeat (first | with_reducible refine wpAny_madeHere_exc F.canon at1 ?_ | with_reducible refine wpAny_loadPart_at at1 ?_ | (with_reducible refine wpAny_isSubtype_exc at1 ?_; first | rw [y1] | rw [y2] | rw [y3]) | wp_step)
  show R (.ok _) _
  rw [Heap.size_push]
  exact go
theorem run_type (Y : BaseIn B nid iid bmB bm) {xs : List Value} {kw : List (Str × Value)} {f : Addr} {T : Fin → Shared → Prop} (cl : Lies hp C nid bm) (sz : xs.length ≤ sizeLine)
    (li : W.Looks (model prog w) hp (typeLookup (.ref C) "__init__") (some (.ref f))) (lb : ∀ v, W.Looks (model prog w) hp (bindSpecial (.ref f) v) (.ref f, [v]))
    (go : codeAny (model prog w) A (.call (.ref f) ⟨.ref (hp.objs.size + 1) :: xs, kw⟩) (fun r s' => match r with | .ok (.ret v) => v = .none ∧ T (.done (.ret (.ref (hp.objs.size + 1)))) s' | .ok _ => False | .error e => E e s') ⟨withErr hp xs C, gs, dr, tk, os⟩) :
    wpAny (model prog w) A (Builtin.«type.__call__» ⟨.ref C :: xs, kw⟩) T E ⟨hp, gs, dr, tk, os⟩ := by
  obtain ⟨nm, q, N, bs, hdct, sn, sub, ab, col, dd, k0, k1, k2, k3, k5, at1⟩ := id cl
  have F := Y.F
  repeat (first | with_reducible refine wpAny_loadPart_at at1 ?_ | with_reducible refine wpAny_madeBy_exc at1 ?_ | wp_step)
  refine codeAny_call_builtin_code (Code.quiet_builtin _ F.quiet) (see_new Y cl (run_new Y cl sz ?_))
  show wpAny _ _ _ _ _ _
  have old : ∀ b o, hp.get? b = some o → (withErr hp xs C).get? b = some o := fun b o e => Heap.get?_push_of_some _ (Heap.get?_push_of_some _ e)
  have at2 := old _ _ at1
  have new : (withErr hp xs C).get? (hp.objs.size + 1) = some (excO C hp.objs.size) := by heap_get
  have self : (Value.ref C :: bm).contains (.ref C) = true := by simp
  have li2 := li.keeps old
  have lb2 := (lb (.ref (hp.objs.size + 1))).keeps old
  unfold isInstance
  repeat (first | with_reducible refine wpAny_loadPart_at new ?_ | (with_reducible refine wpAny_isSubtype_exc at2 ?_; rw [self]) | wp_step)
  show wpAny _ _ (typeLookup (.ref C) _) _ _ _
  refine li2.at (wpAny_holding (wpAny_bind (lb2.at ?_)))
  refine wpAny_bind (wpAny_call (codeAny_mono go fun r s' z => ?_))
  rcases r with e | (v | _ | _ | _) <;> first | exact z | exact z.elim | skip
  obtain ⟨rfl, z⟩ := z
  first
    | exact wpAny_pure (wpAny_pure z)
    | (wp_walk; exact z)
/-- type.__call__ is admitted with any arguments -/
theorem see_type {xs : List Value} {kw : List (Str × Value)} {T : Unit → Shared → Prop} (cl : Lies hp C nid bm) (go : T () ⟨hp, gs, dr, tk, os⟩) : wpAny (model prog w) A (checkBuiltinCall "type.__call__" ⟨.ref C :: xs, kw⟩) T E ⟨hp, gs, dr, tk, os⟩ := by
  obtain ⟨nm, q, N, bs, hdct, sn, sub, ab, col, dd, k0, k1, k2, k3, k5, at1⟩ := cl
  have ty : (⟨hp, gs, dr, tk, os⟩ : Shared).TypeIs (.ref C) "type" := ⟨_, at1, rfl⟩
  have t3 := tc_sub
  simp only [checkBuiltinCall, tc_kind, tc_split]
  repeat (any_goals (first | assumption | with_reducible refine wpAny_loadPart_at at1 ?_ | with_reducible refine wpAny_onRaise ?_ | with_reducible refine wpAny_map ?_ | wp_step))
/-- C(..), C having an own __init__ -/
theorem call_err (Y : BaseIn B nid iid bmB bm) {xs : List Value} {kw : List (Str × Value)} {f : Addr} (cl : Lies hp C nid bm) (sz : xs.length ≤ sizeLine)
    (li : W.Looks (model prog w) hp (typeLookup (.ref C) "__init__") (some (.ref f))) (lb : ∀ v, W.Looks (model prog w) hp (bindSpecial (.ref f) v) (.ref f, [v]))
    (go : codeAny (model prog w) (A.under (.builtin "type.__call__" ⟨.ref C :: xs, kw⟩)) (.call (.ref f) ⟨.ref (hp.objs.size + 1) :: xs, kw⟩) (W.InitBack (hp.objs.size + 1) R) ⟨withErr hp xs C, gs, dr, tk, os⟩) :
    codeAny (model prog w) A (.call (.ref C) ⟨xs, kw⟩) R ⟨hp, gs, dr, tk, os⟩ := by
  obtain ⟨nm, q, N, bs, hdct, sn, sub, ab, col, dd, k0, k1, k2, k3, k5, at1⟩ := id cl
  have ty : (⟨hp, gs, dr, tk, os⟩ : Shared).TypeIs (.ref C) "type" := ⟨_, at1, rfl⟩
  have t1 := tc_lookup
  have t2 := tc_bind (.ref C)
  refine codeAny_of_tree (by
    show wpAny _ _ (callAny (.ref C) _) _ _ _
    repeat (any_goals (first | assumption | with_reducible refine wpAny_loadPart_at at1 ?_ | wp_step))
    refine ⟨rfl, codeAny_call_builtin_at (Code.quiet_builtin _ (by decide +kernel)) entry_typeCall (see_type cl (run_type Y cl sz li lb ?_))⟩
    refine codeAny_mono go fun r s' z => ?_
    rcases r with e | (v | _ | _ | _) <;> exact z)
end
end MyX

/-! repr of deep things, in a def that is called where no repr is under way -/
namespace MyG
open PySem PySem.Spec PyProof.Rows L2
/-- a def's promise where no repr is under way -/
structure FnG (P : Program) (w : World) (K : PySem.W.Frag) (mg : Str → Option Value) (base : Heap) (k : Nat) (f : Addr) (fd : FuncData) (ps : List Str) (sp : Sp) : Prop where
  len : ∀ vs H Q E, sp vs H Q E → vs.length = ps.length
  run : ∀ (A : Around) (outer : List Env) (s : Shared) (H : Hp) (args : Args) (us : List Value) (vs : List V) (Q : VK) (E : XK), Room k A → A.guards = some [] → Env0 P w K mg base A outer s H →
    BindsTo s fd args (ps.zip us) → Vals vs us → sp vs H Q E → codeAny (model P w) A (.call (.ref f) args) (CR CX0 outer P w H s Q E) s
section
variable {P : Program} {w : World} {K : PySem.W.Frag} {mg : Str → Option Value} {base : Heap}
theorem okG {x qual : Str} {st : Stmt} {f : Addr} {fd : FuncData} {N ps : List Str} {k : Nat} {sp : Sp} (D : Fun K x qual st f fd) (S : FnScope N ps (defScope st)) (len : ∀ vs H Q E, sp vs H Q E → vs.length = ps.length)
    (go : ∀ (cdv : Value) (A : Around) (outer : List Env) (s : Shared) (H : Hp) (vs : List V) (Q : VK) (E : XK), Room k (A.deeper (envOfC qual (defScope st) s.heap.objs.size f cdv)) → (A.deeper (envOfC qual (defScope st) s.heap.objs.size f cdv)).guards = some [] →
      sp vs H Q E → ∃ t, PSs (cxOf CX0 P w K mg base N qual (defScope st) f cdv A outer s H E).nox (defBody st) t ∧ t { nx := fun _ H' => Q .non H', rt := Q } (start N vs) H) : FnG P w K mg base (k + 1) f fd ps sp := by
  obtain ⟨oc, od, kV, doc, pm, an, cdv, ct, osl, rfl, lk, code⟩ := D.ex
  refine ⟨len, fun A outer s H args us vs Q E room gd e0 bd rv hs => ?_⟩
  have old : ∀ b o, base.get? b = some o → s.heap.get? b = some o := fun b o e => (e0.bs b o e).1
  have KX : K.In s.heap := e0.mod.kin.keeps old
  have names : ∀ y ∈ ps.zip us, (defScope st).names.lookup y.1 = some .local ∨ ((defScope st).names.lookup y.1 = some .cell ∧ ((cellsFrom (s.heap.objs.size + 1) (defScope st).names []).lookup y.1).isSome = true) := fun ⟨n, v⟩ hy =>
    (S.par n (List.of_mem_zip hy).1).imp id fun q => ⟨q, PySem.W.cellsFrom_some _ _ _ (.inl q)⟩
  refine codeAny_call_function room.depth (KX _ _ lk) rfl S.co S.gen rfl (PySem.W.codeRec_of KX code) (bd _ _ _ _ (wpAny_newFunctionEnv_cells S.kind names ?_))
  rintro env rfl s1 call
  obtain ⟨t, body, q0⟩ := go cdv A outer s H vs Q E (room.deeper _) gd hs
  have I := inv_start (CX := CX0) (E := E) S room.hd e0 (len _ _ _ _ hs) rv call
  refine ⟨(e0.mod.nolimit.keeps old).keeps call.toInCall.keep, codeAny_func (wpAny_mono (body.nox.run [] s1 (start N vs) H _ I q0) ?_ fun _ _ z => z)⟩
  intro fl s' z
  have bye : ∀ {σ' : L2.St} {H' : Hp} {v : V} {u : Value}, Inv (cxOf CX0 P w K mg base N qual (defScope st) f cdv A outer s H E) [] σ' H' s' → RelV v u → Q v H' → CE outer P w H s Q u s' := fun {σ' H' v u} J r y => ⟨v, H', J.os, J.bare, J.base, J.hok, r, y⟩
  cases fl
  case ret u =>
    obtain ⟨v, σ', H', J, r, y⟩ := z
    exact bye J r y
  case next =>
    obtain ⟨σ', H', J, y⟩ := z
    exact bye (v := V.non) (u := Value.none) J rfl y
  all_goals
    obtain ⟨_, _, _, y⟩ := z
    exact False.elim y
end
/-- repr of a thing that is known deep down -/
def rReprD (K : PySem.W.Frag) : List V → Hp → VK → Prop := fun xs H Q =>
  ∃ (a : Addr) (d : PyData), xs = [.ref a] ∧ Dp K H (.ref a) d ∧ d.showable = true ∧ d.hasDict = false ∧ d.depth ≤ 30 ∧ d.shown.length ≤ sizeLine ∧ Q (.str d.shown) H
theorem call_reprD {X : Cx} (gd : X.A.guards = some []) (un : X.A.units + 64 < cLine) : CallR X (.builtin "repr") (rReprD X.K) := by
  intro pins s σ H xs us Q I rv z
  obtain ⟨a, d, rfl, dp, sh, nd, de, sz, q⟩ := z
  cases rv with
  | cons r0 rr =>
    cases rr
    cases r0
    obtain ⟨as, rd⟩ := Dp.reads I d (.ref a) (.ref a) dp rfl
    refine repr_of_reads' rd sh (fun y => by rw [nd] at y; cases y) gd (by omega) (fun _ _ e => e) (fun h' u tk old => ?_) sz
    exact ⟨.str d.shown, H, I.kept (t' := tk) old, ⟨u, rfl⟩, q⟩
end MyG

/-! the theorem's head for a law's def that keeps a promise where no repr is under way -/
namespace MyG
open PySem PySem.Spec PyProof.Rows L2
/-- the heap in which nothing but the script is tracked, unless the script is the module's own -/
def heap0 (K : PySem.W.Frag) (a : Addr) (ob : Obj) (xs : List V) : Hp := fun b => if b = a ∧ K.lookup a = none then some (.frz ob (.lst xs)) else none
theorem heap0_some {K : PySem.W.Frag} {a b : Addr} {ob : Obj} {xs : List V} {u : HO} (h : heap0 K a ob xs b = some u) : b = a ∧ K.lookup a = none ∧ u = .frz ob (.lst xs) := by
  unfold heap0 at h
  split at h
  · rename_i c
    exact ⟨c.1, c.2, (Option.some.inj h).symm⟩
  · cases h
theorem heap0_only {K : PySem.W.Frag} {a : Addr} {ob : Obj} {xs : List V} : Only (heap0 K a ob xs) := fun b => by
  cases h : heap0 K a ob xs b with
  | none => exact .inl rfl
  | some u => exact .inr ⟨ob, xs, by rw [(heap0_some h).2.2]⟩
theorem head_call {P : Program} {w : World} {K : PySem.W.Frag} {mg mb : Str → Option Value} {k : Nat} {fa a : Addr} {fd : FuncData} {x : Str} {sp : Sp} {s₁ : Shared} {vs : List Value} {ns : List Int}
    (kin : K.In s₁.heap) (nm : s₁.heap.Ns mainGlobals mg) (nb : s₁.heap.Ns builtinsNs mb) (nbb : ∀ x : Str, x ≠ "__name__" → mb x = bootBuiltins x) (nl : s₁.heap.NoLimit) (gs : s₁.gens = #[])
    (lies : s₁.heap.get? a = some { cls := .type "list", data := .seq vs.toArray }) (are : IntsAre vs ns) (le : ns.length ≤ sizeLine) (room : Room k callerA)
    (F : ∀ base : Heap, K.In base → base.Ns mainGlobals mg → FnG P w K mg base k fa fd [x] sp) (bd : ∀ (s : Shared) (u : Value), BindsTo s fd ⟨[u], []⟩ [(x, u)])
    (pre : ∀ H : Hp, Only H → SqL K H a (ns.map V.int) → sp [.ref a] H (fun v _ => v = .bl true) fun _ _ _ => False) :
    codeAny (model P w) callerA (.call (.ref fa) ⟨[.ref a], []⟩) (fun r s' => r = .ok (.ret (.bool true)) ∧ OldK s₁.heap s'.heap ∧ s'.os = s₁.os ∧ AllBare s'.gens) s₁ := by
  have rv := vals_ints are
  obtain ⟨ob, eob⟩ : ∃ ob : Obj, ob = { cls := .type "list", data := .seq vs.toArray } := ⟨_, rfl⟩
  obtain ⟨H, eH⟩ : ∃ H : Hp, H = heap0 K a ob (ns.map V.int) := ⟨_, rfl⟩
  have some_ : ∀ {b u}, H b = some u → b = a ∧ K.lookup a = none ∧ u = .frz ob (.lst (ns.map V.int)) := fun {b u} h => heap0_some (eH ▸ h)
  have only : Only H := eH ▸ heap0_only
  have sq : SqL K H a (ns.map V.int) := by
    cases lk : K.lookup a with
    | some o =>
      have e := kin a o lk
      rw [lies] at e
      cases e
      exact .inr ⟨_, vs.toArray, _, lk, rfl, rfl, rfl, by rw [List.size_toArray, are.length]; exact le, by simpa using rv⟩
    | none => exact .inl (.inr ⟨ob, by rw [eH]; exact if_pos ⟨rfl, lk⟩⟩)
  have ok : HOk P w H s₁.heap := fun b u h => by
    obtain ⟨rfl, _, rfl⟩ := some_ h
    rw [eob]
    exact ⟨lies, by rw [List.length_map]; exact le, vs, _, rv, lies⟩
  have isK : ∀ b o, K.lookup b = some o → H b = none := fun b o e => by
    cases h : H b with
    | none => rfl
    | some u =>
      obtain ⟨rfl, n, _⟩ := some_ h
      rw [n] at e
      cases e
  have isD : ∀ {b : Addr} {o : Obj} {es : Array DictEntry} {ep : Nat}, s₁.heap.get? b = some o → o.data = .dict es ep → H b = none := fun {b o es ep} e d => by
    cases h : H b with
    | none => rfl
    | some u =>
      obtain ⟨rfl, _, _⟩ := some_ h
      rw [lies] at e
      cases e
      have d' : Data.seq vs.toArray _ = Data.dict es ep := d
      cases d'
  have ns_ : ∀ {b : Addr} {m : Str → Option Value}, s₁.heap.Ns b m → (hidT s₁.heap H).Ns b m := fun {b m} ⟨o, es, ep, e, d, r⟩ => ⟨o, es, ep, hidT_get e (isD e d), d, r⟩
  have kb : K.In (hidT s₁.heap H) := fun b o e => hidT_get (kin b o e) (isK b o e)
  obtain ⟨mc, l1, l2⟩ := nl
  have e0 : Env0 P w K mg (hidT s₁.heap H) callerA [] s₁ H := {
    frames := rfl
    mod := ⟨kb, ns_ nm, ⟨mb, ns_ nb, nbb⟩, mc, ns_ l1, l2⟩
    bs := fun b o e => of_hidT e
    bsz := Nat.le_of_eq (hidT_size _ _)
    funs := trivial
    frf := fun b hb => nomatch hb
    hok := ok
    bare := .of_eq gs }
  refine codeAny_mono ((F _ kb (ns_ nm)).run callerA [] s₁ H ⟨[.ref a], []⟩ [.ref a] [.ref a] _ _ room rfl e0 (bd s₁ (.ref a)) (.cons rfl .nil) (pre H only sq)) fun r s' h => ?_
  cases r with
  | error e => exact False.elim h
  | ok fl =>
    cases fl with
    | ret u =>
      obtain ⟨v, H', os, bare, un, ok', r', q⟩ := h
      obtain rfl : v = .bl true := q
      obtain rfl : u = Value.bool true := r'
      refine ⟨rfl, OldK.of_keep fun b o e => ?_, os, bare⟩
      cases h : H b with
      | none => exact un.keep b o e h (fun z => nomatch z) (fun z => nomatch z)
      | some y =>
        obtain ⟨rfl, _, rfl⟩ := some_ h
        have z2 := ok' _ _ (un.frzs _ ob _ h)
        rw [lies] at e
        cases e
        rw [eob] at z2
        exact z2.1
    | next => exact False.elim h
    | brk => exact False.elim h
    | cont => exact False.elim h
/-- as walk_of, for such a promise -/
theorem walk_G {l : PySem.W.OpenLaw} {n k : Nat} {q : Program} {loose : List Str} {XP : (Str → Option Value) → Heap → Prop} {YP : World → Heap → Prop} {d : DefRec} {K : Params → PySem.W.Frag} {sp : World → Sp} {x : Str}
    (most : l.most = some n) (small : n ≤ sizeLine) (nodef : d.params.defaults = []) (room : Room k callerA) (hY : ∀ (w : World) (h : Heap), YP w h → (K w.params).In h)
    (F : ∀ (w : World) (mg : Str → Option Value) (fa : Addr) (h : Heap), (K w.params).In h → h.Ns mainGlobals mg → mg d.name = some (.ref fa) → ∃ fd : FuncData, (∀ (s : Shared) (u : Value), BindsTo s fd ⟨[u], []⟩ [(x, u)]) ∧
      ∀ base : Heap, (K w.params).In base → base.Ns mainGlobals mg → FnG l.prog w (K w.params) mg base k fa fd [x] (sp w))
    (pre : ∀ (w : World) (H : Hp) (a : Addr) (ns : List Int), ns.length ≤ n → Only H → SqL (K w.params) H a (ns.map V.int) → sp w [.ref a] H (fun v _ => v = .bl true) fun _ _ _ => False) :
    PySem.W.WalkO q loose XP YP l.row.toRowW d [] (fun f vs => PySem.call f vs) :=
  Att.attach_call most nodef fun w s₀ s₁ mg mb fa o pm cd doc a vs ns G Y ho hd hcd hmg lies are le gs => by
    have KX := hY w _ Y
    obtain ⟨fd, bd, F1⟩ := F w mg fa _ KX G.T.g hmg
    exact head_call KX G.T.g G.T.b G.T.builtins G.T.nolimit gs lies are (Nat.le_trans le small) room F1 bd fun H o s => pre w H a ns le o s
end MyG

set_option maxHeartbeats 2000000
/-! own errors as values: made by C(e) or C(f = e), kept with their one field -/
namespace MyX
open PySem PySem.W PySem.Calls PyProof.Rows PySem.HandSPX PySem.Spec PySem.Builtin PySem.Builtin.ObjectAttr
/-- a class's mro, as far as a store looks at it -/
structure MroIn (mro : List Value) : Prop where
  ne : mro.isEmpty = false
  ob : mro.contains (.type "object") = true
  ps : ∀ v, refuseLoop v "__setattr__" mro = pure ()
theorem MroIn.cons {C : Addr} {l : List Value} (m : MroIn l) : MroIn (.ref C :: l) :=
  ⟨rfl, by rw [List.contains_cons, m.ob, Bool.or_true], fun v => by rw [refuseLoop_ref]; exact m.ps v⟩
section
variable {prog : Program} {w : World} {A : Around} {R : Result → Shared → Prop} {hp : Heap} {gs : Array GenState} {dr : Drawn} {n : Nat} {os : OsState}
/-- the first field of a new error: its dict is laid -/
theorem lay_first {K : W.Frag} {f : Str} {tk : Tok} {v : Value} {e C : Addr} {fv : Array Value} {cd : ClassData} (kin : K.In hp) (at1 : hp.get? e = some { cls := .ref C, data := .fields fv }) (cl : W.clsIn K C = some cd) (m : MroIn cd.mro) (hd : cd.hasDict = true) (no : W.findIn K (.ref C) f = some none)
    (go : ∀ h' tk' dx, (∀ b o, b ≠ e → hp.get? b = some o → h'.get? b = some o) → hp.objs.size ≤ dx → dx ≠ e → h'.get? e = some { cls := .ref C, dict := some dx, data := .fields fv } → h'.Ns1 dx (fun y => if y = f then some v else none) → R (.ok (.ret .none)) ⟨h', gs, dr, tk', os⟩) :
    codeAny (model prog w) A (.call (.builtin "object.__setattr__") ⟨[.ref e, .str f tk, v], []⟩) R ⟨hp, gs, dr, n, os⟩ := by
  have G := PySem.F.store_object
  have J : W.InstAt hp e { cls := .ref C, data := .fields fv } C none := ⟨at1, rfl, rfl, trivial⟩
  have le : e ≠ hp.objs.size := Nat.ne_of_lt (Heap.lt_size at1)
  have isO : W.Looks (model prog w) hp (isInstance (.ref e) (.type "object")) true := J.type.andThen (W.looks_mroIn kin (by
    unfold W.mroIn
    rw [cl, Option.bind_some, if_neg (by rw [m.ne]; decide), m.ob]))
  have y1 : W.Looks (model prog w) hp (mroOf (.ref C)) cd.mro := (W.looks_clsIn kin cl).andThen .now
  have y2 : W.Looks (model prog w) hp (classData C) cd := W.looks_clsIn kin cl
  have y3 : W.Looks (model prog w) hp (storeTaker? none) none := .now
  refine codeAny_call_builtin G.slot.plain G.entry (@W.check_slot (model prog w) _ _ ⟨hp, gs, dr, n, os⟩ "object.__setattr__" "object" "__setattr__" (.ref e) [.str f tk, v] [] _ G.kind G.split isO (G.args (.ref e) (.str f tk) v) ?_)
  rw [W.osa_eq, refuse_eq]
  refine wpAny_bind (wpAny_bind (J.type.at (wpAny_bind (y1.at (by
    rw [m.ps]
    refine wpAny_pure (wpAny_bind (J.type.at (wpAny_bind ((W.looks_findIn kin no).at (wpAny_bind (y3.at ?_))))))
    show wpAny _ _ (storeInOwnDict (.ref e) (.ref C) (.str f tk) f v false) _ _ _
    obtain ⟨nm, bs, mro, ns, qn, cdh, sn, sb, ab, col, del⟩ := cd
    obtain rfl : cdh = true := hd
    unfold storeInOwnDict ownDictForStores
    repeat (first | with_reducible refine store_in_new ?_ ?_ | with_reducible refine wpAny_loadPart_at at1 ?_ | with_reducible refine y2.at ?_ | wp_step)
    · exact ⟨_, #[], _, (Heap.get?_update_ne _ _ _ _ le.symm).trans (Heap.get?_push_at rfl rfl), rfl, fun b hb => absurd hb (by simp), fun _ => rfl⟩
    · intro h' tk' ns1 same
      have at2 : (hp.push { cls := .type "dict", data := .dict #[] }).get? e = some { cls := .ref C, data := .fields fv } := Heap.get?_push_of_some _ at1
      exact go h' tk' hp.objs.size (fun b o hb ho => (same.2 b (Nat.ne_of_lt (Heap.lt_size ho))).trans ((Heap.get?_update_ne _ _ _ _ hb).trans (Heap.get?_push_of_some _ ho))) (Nat.le_refl _) le.symm
        ((same.2 e le).trans (Heap.get?_update_self _ at2 rfl)) ns1)))))
end
end MyX
namespace MyG
open PySem PySem.Spec PyProof.Rows L2 MyX
/-- what the module says of an error class that has an own __init__ -/
structure XoC (K : PySem.W.Frag) (C : Addr) : Prop where
  ex : ∃ nid iid B bmB bm nm q N bs sn sub ab col dd k0 k1 k2 k3 k5, K.lookup C = some (excClassObj nm q C N bs bm true sn sub ab col dd k0 k1 k2 k3 k5 nid) ∧ BaseIn B nid iid bmB bm ∧ MroIn bm
  sa : PySem.W.findIn K (.ref C) "__setattr__" = some (some (.builtin "object.__setattr__"))
  kC : PySem.W.keepIn K (.ref C) = true
/-- an error of the class C, its field f holding v -/
def ErrAt (H : Hp) (a C : Addr) (f : Str) (v : V) : Prop := ∃ d, H a = some (exo a C (some d)) ∧ H d = some (exd d [(f, v)])
/-- an error of the class C -/
def ErrOf (H : Hp) (a C : Addr) : Prop := H a = some (exo a C none) ∨ ∃ f v, ErrAt H a C f v
theorem _root_.L2.Same.err {H H' : Hp} {a C : Addr} {f : Str} {v : V} (s : Same H H') (h : ErrAt H a C f v) : ErrAt H' a C f v := by
  obtain ⟨d, h1, h2⟩ := h
  exact ⟨d, s _ _ h1, s _ _ h2⟩
theorem _root_.L2.Same.errOf {H H' : Hp} {a C : Addr} (s : Same H H') (h : ErrOf H a C) : ErrOf H' a C := by
  rcases h with h | ⟨f, v, h⟩
  · exact .inl (s _ _ h)
  · exact .inr ⟨f, v, s.err h⟩
theorem ErrAt.of {H : Hp} {a C : Addr} {f : Str} {v : V} (h : ErrAt H a C f v) : ErrOf H a C := .inr ⟨f, v, h⟩
section
variable {X : Cx} {pins : List (Addr × Obj)} {σ : L2.St} {H : Hp} {s : Shared} {a C : Addr} {f : Str} {y : V} {u : Value} {Q : Unit → Shared → Prop} {E : Value → Shared → Prop} {A : Around}
/-- self.f = y for a new error -/
theorem err_first (T : XoC X.K C) (I : Inv X pins σ H s) (e : H a = some (exo a C none)) (no : PySem.W.findIn X.K (.ref C) f = some none) (ry : RelV y u)
    (go : ∀ d s', H d = none → d ≠ a → Inv X pins σ (upd (upd H d (exd d [(f, y)])) a (exo a C (some d))) s' → Q () s') : wpAny (model X.prog X.w) A (setAttr (.ref a) f u) Q E s := by
  obtain ⟨nid, iid, B, bmB, bm, nm, q, N, bs, sn, sub, ab, col, dd, k0, k1, k2, k3, k5, lC, Y, m⟩ := T.ex
  obtain ⟨t1, lies⟩ := exo_at I.hok e
  obtain ⟨hp, gs, dr, tk, os⟩ := s
  refine PySem.W.set_plain I.kIn (ox := { cls := .ref C, dict := none, data := .fields #[.ref t1, .none, .none, .none, .bool false, .none] }) (od := none) ⟨lies, rfl, rfl, True.intro⟩ T.sa (lay_first (cd := { name := nm, bases := bs, mro := .ref C :: bm, ns := N, qualname := q, hasDict := true, slotNames := sn, subclasses := sub, abstract := ab, collection := col, hasDel := false }) I.kIn lies (by
    unfold PySem.W.clsIn
    rw [lC] <;> rfl) m.cons rfl no fun h' tk' d keep new ne lies' ns => ?_)
  have nd : H d = none := I.hok.fresh new
  have old : ∀ {b : Addr} {o : Obj}, hp.get? b = some o → b ≠ d := fun {b o} z => Nat.ne_of_lt (Nat.lt_of_lt_of_le (Heap.lt_size z) new)
  have na : ∀ {b : Addr}, H b = none → b ≠ a := fun {b} n z => by
    rw [z, e] at n
    cases n
  refine go d _ nd ne (I.un (t' := tk') {
    keep := fun b o z n _ _ => keep b o (na n) z
    slot := fun b o z n _ _ => ⟨o.slots, keep b o (na n) z⟩
    free := fun b o z n _ => by rw [upd_ne (na n), upd_ne (old z)]; exact n
    there := fun b o z _ => by
      by_cases hb : b = a
      · exact ⟨_, by rw [hb]; exact lies'⟩
      · exact ⟨o, keep b o hb z⟩
    tups := fun b xs z => by rw [upd_ne (at_ne e z exo_tup), upd_ne (ne_of_none z nd)]; exact z
    frzs := fun b o v z => by rw [upd_ne (at_ne e z exo_frz), upd_ne (ne_of_none z nd)]; exact z
    tbls := fun b ps z => ⟨#[], by rw [upd_ne (at_ne e z exo_tbl), upd_ne (ne_of_none z nd), z]; simp⟩ } fun b o z => ?_)
  by_cases ba : b = a
  · subst ba
    rw [upd_same] at z
    cases z
    exact exo_ok lies'
  rw [upd_ne ba] at z
  by_cases bd : b = d
  · subst bd
    rw [upd_same] at z
    cases z
    exact exd_ok ns (relO_put (fs := []) ry fun g => True.intro)
  rw [upd_ne bd] at z
  refine (I.hok b o z).stay (fun c v hc k => keep c v ?_ k) (fun c hc => ?_) fun c xs hc => ?_
  · rcases hc with rfl | hc
    · exact ba
    · exact at_ne e hc exo_own
  · rw [upd_ne (at_ne e hc exo_own), upd_ne (ne_of_none hc nd)]
    exact hc
  · rw [upd_ne (at_ne e hc exo_tup), upd_ne (ne_of_none hc nd)]
    exact hc
end
/-- self.f = e in a new error's __init__ -/
def tSet1 (K : PySem.W.Frag) (f : Str) (to te : TE) : TS := fun D σ H => te σ H fun y H1 => to σ H1 fun x H2 => ∃ a C : Addr, x = .ref a ∧ XoC K C ∧ PySem.W.findIn K (.ref C) f = some none ∧ H2 a = some (exo a C none) ∧
  ∀ d, H2 d = none → d ≠ a → D.nx σ (upd (upd H2 d (exd d [(f, y)])) a (exo a C (some d)))
theorem ps_set1 {X : Cx} {o e : Expr} {to te : TE} {f : Str} {p' pos : Pos} (ho : PE X o to) (he : PE X e te) (sw : swapsWith e (some (.Attribute o f p')) pos.line X.env = pure false := by rfl) : PS X (.Assign [.Attribute o f p'] e pos) (tSet1 X.K f to te) := by
  refine ⟨fun pins s σ H D I h => plainObj_wpAny_Assign_Attribute (thn (he.run pins s σ H _ I h) fun v s1 z => ?_) sw⟩
  obtain ⟨y, H1, I1, ry, z⟩ := z
  refine thn (ho.run pins s1 σ H1 _ I1 z) fun u s2 z2 => ?_
  obtain ⟨_, H2, I2, ru, a, C, rfl, T, no, e, q⟩ := z2
  obtain rfl : u = Value.ref a := ru
  exact err_first T I2 e no ry fun d s' n ne J => ⟨σ, _, J, q d n ne⟩
/-- the __init__ of an error with the one field f -/
def spErr1 (C : Addr) (f : Str) : Sp := fun vs H Q _ => ∃ (a : Addr) (y : V), vs = [.ref a, y] ∧ H a = some (exo a C none) ∧ ∀ d, H d = none → d ≠ a → Q .non (upd (upd H d (exd d [(f, y)])) a (exo a C (some d)))
/-- the module's name x is an error class with one field -/
structure ErrMk (P : Program) (w : World) (K : PySem.W.Frag) (mg : Str → Option Value) (base : Heap) (x f : Str) (C : Addr) : Prop where
  X : XoC K C
  ex : ∃ fI fd, FnOk P w K mg base CX0 1 fI fd ["self", f] (spErr1 C f) ∧ PySem.W.findIn K (.ref C) "__init__" = some (some (.ref fI)) ∧ PySem.W.typeIn K (.ref fI) = some (.type "function") ∧ Binds K fd ["self", f] [] ∧ KBn K fd ["self", f] 1 [f] (fun us ws => us ++ ws) (fun vs zs => vs ++ zs)
  m : mg x = some (.ref C)
/-- C(e), C(f = e) -/
def tErr (C : Addr) (f : Str) (ta : TA) : TE := fun σ H Q => ta σ H fun vs H1 => ∃ y, vs = [y] ∧ ∀ a H2, H1 a = none → Same H1 H2 → ErrAt H2 a C f y → Q (.ref a) H2
section
variable {X : Cx} {x f : Str} {C : Addr} {p pos : Pos}
theorem make_err {pins : List (Addr × Obj)} {σ : L2.St} {H : Hp} {s : Shared} {Q : VK} {us : List Value} {kw : List (Str × Value)} {y : V} {u : Value} {fI : Addr} {fd : FuncData} (T : XoC X.K C) (F : FnOk X.prog X.w X.K X.mg X.base CX0 1 fI fd ["self", f] (spErr1 C f))
    (iC : PySem.W.findIn X.K (.ref C) "__init__" = some (some (.ref fI))) (tI : PySem.W.typeIn X.K (.ref fI) = some (.type "function")) (room : Room 2 X.A) (I : Inv X pins σ H s) (ry : RelV y u) (sz : us.length ≤ sizeLine)
    (bd : ∀ (s' : Shared) (a : Addr), X.K.In s'.heap → BindsTo s' fd ⟨.ref a :: us, kw⟩ ([("self" : Str), f].zip [.ref a, u]))
    (go : ∀ a H2, H a = none → Same H H2 → ErrAt H2 a C f y → Q (.ref a) H2) : wpAny (model X.prog X.w) X.A (call (.ref C) us kw) (EP X pins σ Q) X.xe s := by
  obtain ⟨nid, iid, B, bmB, bm, nm, q, N, bs, sn, sub, ab, col, dd, k0, k1, k2, k3, k5, lC, Y, _⟩ := T.ex
  obtain ⟨hp, gs, dr, tk, os⟩ := s
  have big : hp.objs.size ≤ hp.objs.size + 1 := Nat.le_succ _
  have nE : H (hp.objs.size + 1) = none := I.hok.fresh big
  have old : ∀ b o, hp.get? b = some o → (withErr hp us C).get? b = some o := fun b o e => Heap.get?_push_of_some _ (Heap.get?_push_of_some _ e)
  have new : (withErr hp us C).get? (hp.objs.size + 1) = some (PySem.HandSPX.excO C hp.objs.size) := by heap_get
  have I2 : Inv X pins σ (upd H (hp.objs.size + 1) (exo (hp.objs.size + 1) C none)) ⟨withErr hp us C, gs, dr, tk, os⟩ := I.laid (t' := tk) (a := hp.objs.size + 1) (o := exo (hp.objs.size + 1) C none) (h' := withErr hp us C) old big (exo_ok new)
  refine wpAny_call (call_err Y ⟨_, _, _, _, _, _, _, _, _, _, _, _, _, _, _, I.kIn _ _ lC⟩ sz (PySem.W.looks_findIn I.kIn iC) (fun v => PySem.W.bind_fn I.kIn v tI)
    (codeAny_mono (F.run _ X.stack _ _ ⟨.ref (hp.objs.size + 1) :: us, kw⟩ [.ref (hp.objs.size + 1), u] [.ref (hp.objs.size + 1), y] (fun v H2 => v = .non ∧ Q (.ref (hp.objs.size + 1)) H2) (fun _ _ _ => False) (room.make C us kw) (I2.env0.make C us kw) (bd _ _ I2.kIn) (.cons rfl (.cons ry .nil))
      ⟨_, y, rfl, upd_same, fun d nd ne => ⟨rfl, ?_⟩⟩) fun r s' z => ?_))
  · have nd' : H d = none := by
      rw [upd_ne ne] at nd
      exact nd
    refine go _ _ nE (fun b o e => ?_) ⟨d, upd_same, ?_⟩
    · rw [upd_ne (ne_of_none e nE), upd_ne (ne_of_none e nd'), upd_ne (ne_of_none e nE)]
      exact e
    · rw [upd_ne ne, upd_same]
  · cases r with
    | error e => exact False.elim z
    | ok fl =>
      cases fl with
      | ret v =>
        obtain ⟨v', H', I3, rv, rfl, q3⟩ := I2.after z
        exact ⟨rv, V.ref (hp.objs.size + 1), H', I3, rfl, q3⟩
      | next => exact False.elim z
      | brk => exact False.elim z
      | cont => exact False.elim z
theorem pe_err {e : Expr} {ta : TA} (M : ErrMk X.prog X.w X.K X.mg X.base x f C) (room : Room 2 X.A) (ha : PA X [e] ta) (hg : Gl X x := by exact rfl) (hdb : (x == ("__debug__" : Str)) = false := by decide) (he : starEach [e] X.env = (false, eval e X.env) :: starEach [] X.env := by rfl) :
    PE X (.Call (.Name x p) [e] [] pos) (tErr C f ta) := by
  obtain ⟨fI, fd, F, iC, tI, bd, _⟩ := M.ex
  refine ⟨fun pins s σ H Q I h => wpAny_Call_Name_kw (ld_glob I hg M.m (PySem.W.callWith_K (h₀ := X.base) I.ok.mod.kin M.X.kC ?_ he rfl) hdb)⟩
  refine thn (ha.run pos pins s σ H _ I h) fun us s1 z => ?_
  obtain ⟨vs, H1, I1, rv, y, rfl, q⟩ := z
  cases rv with
  | @cons _ u _ _ ry rr =>
    cases rr
    exact ⟨I1.kIn, make_err (kw := []) M.X F iC tI room I1 ry (Nat.le_of_ble_eq_true rfl) (fun s' a X1 => bd s' [.ref a, u] X1 rfl) q⟩
theorem pe_errK {kws : List Keyword} {tk : TA} (M : ErrMk X.prog X.w X.K X.mg X.base x f C) (room : Room 2 X.A) (hkw : PK X kws tk) (hg : Gl X x := by exact rfl) (hdb : (x == ("__debug__" : Str)) = false := by decide)
    (hall : (backToKw pos (keywordEach kws X.env)).all (·.1.isSome) = true := by rfl) (hks : (backToKw pos (keywordEach kws X.env)).filterMap (·.1) = [f] := by rfl)
    (hpl : ((backTo pos (starEach [] X.env)).any (·.1) || (backToKw pos (keywordEach kws X.env)).any (·.1.isNone)) = false := by rfl) : PE X (.Call (.Name x p) [] kws pos) (tErr C f tk) := by
  obtain ⟨fI, fd, F, iC, tI, _, bd⟩ := M.ex
  refine ⟨fun pins s σ H Q I h => wpAny_Call_Name_kw (ld_glob I hg M.m (PySem.W.callWith_KW0 (h₀ := X.base) I.ok.mod.kin M.X.kC hall ?_ hpl) hdb)⟩
  refine thn (hkw.run pos pins s σ H _ I h) fun ws s1 z => ?_
  obtain ⟨vs, H1, I1, rv, y, rfl, q⟩ := z
  rw [hks]
  cases rv with
  | @cons _ u _ _ ry rr =>
    cases rr
    exact ⟨I1.kIn, make_err (us := []) (kw := [f].zip [u]) M.X F iC tI room I1 ry (Nat.zero_le _) (fun s' a X1 => bd.to s' [.ref a] [u] X1 rfl rfl) q⟩
/-- C(), C an error class without own __init__ -/
theorem pe_err0 {bmB : List Value} {B nid iid : String} (F : ExcBaseFacts B nid iid bmB) (own : PySem.W.excIn X.K C bmB nid = true) (gC : X.mg x = some (.ref C)) (kC : PySem.W.keepIn X.K (.ref C) = true) (hg : Gl X x := by exact rfl) (hdb : (x == ("__debug__" : Str)) = false := by decide) :
    PE X (.Call (.Name x p) [] [] pos) (fun _ H Q => ∀ a, H a = none → Q (.ref a) (upd H a (exo a C none))) := by
  refine ⟨fun pins s σ H Q I h => wpAny_Call_Name_kw (ld_glob I hg gC (PySem.W.callWith_K0 (f := .ref C) ?_ kC ?_) hdb)⟩
  · exact (I.tok _).kIn
  obtain ⟨bm, N, nm, qn, bs, hdct, sn, sub, ab, col, dd, k0, k1, k2, k3, k5, mN, hC, hN, hni, T⟩ := exc_obj (I.tok _).kIn own
  refine wpAny_call_exc_subT F T hC hN hni (fun h' a hm => ?_) (by show 0 ≤ sizeLine; omega)
  obtain ⟨t, at1, _, _⟩ := hm.there
  have n : H a = none := I.hok.gone hm.new
  exact ⟨.ref a, _, (I.tok _).laidN hm.keeps hm.new n (exo_ok at1), rfl, h a n⟩
end
end MyG

/-! an error value's field, isinstance of an error value -/
namespace MyG
open PySem PySem.Spec PyProof.Rows L2 MyX
/-- an error lies on the heap, its dict too -/
theorem err_inst {P : Program} {w : World} {H : Hp} {h : Heap} {a C : Addr} (ok : HOk P w H h) (e : ErrOf H a C) : ∃ ox od, PySem.W.InstAt h a ox C od := by
  rcases e with e | ⟨f, v, d, e, ed⟩
  · obtain ⟨t, at1⟩ := exo_at ok e
    exact ⟨_, none, at1, rfl, rfl, trivial⟩
  · obtain ⟨t, at1⟩ := exo_at ok e
    obtain ⟨mA, ns, _⟩ := exd_at ok ed
    obtain ⟨od, at2, _⟩ := lookIn_ns ns
    exact ⟨_, some od, at1, rfl, rfl, at2⟩
/-- e.f, e an error value -/
def tErrF (K : PySem.W.Frag) (f : Str) (te : TE) : TE := fun σ H Q => te σ H fun x H1 => ∃ (a C : Addr) (v : V), x = .ref a ∧ ErrAt H1 a C f v ∧ ExcC K C ∧ PySem.W.findIn K (.ref C) f = some none ∧ Q v H1
theorem pe_errf {X : Cx} {e : Expr} {te : TE} {pos : Pos} {f : Str} (he : PE X e te) (hb : attributeBase e f X.env (eval e X.env) = eval e X.env := by rfl) : PE X (.Attribute e f pos) (tErrF X.K f te) := by
  refine ⟨fun pins s σ H Q I h => attr_of hb (thn (he.run pins s σ H _ I h) fun u s1 z => ?_)⟩
  obtain ⟨_, H1, I1, ru, a, C, v, rfl, ⟨d, ea, ed⟩, E, no, q⟩ := z
  obtain rfl : u = Value.ref a := ru
  obtain ⟨t, at1⟩ := exo_at I1.hok ea
  obtain ⟨mA, ns, rel⟩ := exd_at I1.hok ed
  obtain ⟨od, at2, lk⟩ := lookIn_ns ns
  obtain ⟨v', hv, rv⟩ := RelO.some_of (v := v) (o := mA f) (by
    have r := rel f
    rw [lookup_put, if_pos rfl] at r
    exact r)
  exact HandSPX.exc_get I1.kIn ⟨at1, rfl, rfl, at2⟩ E.hg E.hk E.hs (PySem.W.findObj_own E.hd no rfl (by rw [lk, hv])) (handed_of rv) ⟨v, H1, I1.tok _, rv, q⟩
/-- isinstance(e, c), e an error value -/
def rIsErr (K : PySem.W.Frag) : List V → Hp → VK → Prop := fun xs H Q => ∃ (a D : Addr) (c : V) (cv : Value) (b : Bool), xs = [.ref a, c] ∧ ErrOf H a D ∧ ExcC K D ∧ (∀ u, RelV c u → u = cv) ∧ PySem.W.kitOne K (.ref D) cv = some b ∧ Q (.bl b) H
theorem call_isErr {X : Cx} : CallR X (.builtin "isinstance") (rIsErr X.K) := by
  intro pins s σ H xs us Q I rv z
  obtain ⟨a, D, c, cv, b, rfl, e, E, hc, kit, q⟩ := z
  cases rv with
  | cons r1 rr =>
    cases rr with
    | cons r2 rr =>
      cases rr
      cases r1
      obtain rfl := hc _ r2
      obtain ⟨ox, od, J⟩ := err_inst I.hok e
      have cl : (PySem.W.clsIn X.K D).isSome = true := by
        obtain ⟨cd, h, _⟩ := PySem.W.any_some E.hd
        rw [h]
        rfl
      exact PySem.W.kia_one (PySem.W.kitx_exc cl E.hg E.hk E.hs E.ha E.hn E.ht E.hm) I.kIn J kit (fun z => nomatch z) fun tk => ⟨.bl b, H, I.kept (t' := tk) fun _ _ z => z, rfl, q⟩
end MyG

namespace My
open PySem PySem.Spec PyProof.Rows L2
def topS (i : Nat) : Stmt := PySem.Challenge.pw_waitworks_k01_errors_and_what_they_keep.main.body.getD i (.Pass ⟨0, 0, 0, 0⟩)
/-- what of the built-in names is still built-in -/
structure Txt (mg : Str → Option Value) : Prop where
  max : mg "max" = none
  min : mg "min" = none
  int : mg "int" = none
  len : mg "len" = none
  abs : mg "abs" = none
  range : mg "range" = none
  isinstance : mg "isinstance" = none
  repr : mg "repr" = none
  enumerate : mg "enumerate" = none
  ve : mg "ValueError" = none
  ke : mg "KeyError" = none
end My

namespace My
open PySem PySem.Spec PyProof.Rows L2
local macro_rules | `(tactic| walk_at "wp_side") => `(tactic| first | (dsimp only; omega) | exact ⟨by omega, by omega⟩ | exact Or.inl ⟨by omega, by omega⟩ | exact Or.inr ⟨by omega, by omega⟩ | decide)
local macro_rules | `(tactic| walk_at "wp1") => `(tactic| first
  | refine ⟨_, rfl, ?_⟩
  | refine ⟨_, _, rfl, rfl, (by walk_at "wp_side"), ?_⟩
  | refine ⟨_, _, rfl, rfl, ?_⟩
  | refine ⟨_, _, _, _, rfl, rfl, SqL.of (by first | assumption | exact upd_same), rfl, ?_⟩
  | refine ⟨_, _, _, _, rfl, rfl, (by first | assumption | exact upd_same), rfl, ?_⟩
  | refine ⟨_, _, rfl, Or.inl (by assumption), ?_⟩
  | refine Or.inl ⟨_, rfl, ?_⟩)
local macro_rules | `(tactic| walk_at "wps") => `(tactic| repeat walk_at "wp1")
local macro_rules | `(tactic| walk_at "side") => `(tactic| first | (dsimp only; omega) | exact ⟨by omega, by omega⟩ | exact Or.inl ⟨by omega, by omega⟩ | exact Or.inr ⟨by omega, by omega⟩ | decide)
local macro_rules | `(tactic| walk_at "sq") => `(tactic| first | assumption | exact SqL.of (by assumption) | exact SqT.of (by assumption) | (refine L2.Same.seq (by assumption) ?_; walk_at "sq") | (refine L2.Same.seqT (by assumption) ?_; walk_at "sq") | exact Or.inl (by walk_at "sq") | exact Or.inr (by walk_at "sq"))
local macro_rules | `(tactic| walk_at "1") => `(tactic| first
  | refine ⟨_, rfl, iteT ?_⟩
  | refine ⟨_, rfl, iteF ?_⟩
  | refine ⟨_, rfl, ?_⟩
  | refine ⟨_, _, rfl, rfl, (by walk_at "side"), ?_⟩
  | refine ⟨_, _, rfl, rfl, ?_⟩
  | refine ⟨_, _, _, _, true, rfl, .ty _, .base (.int _), kit_ty (a := "int") (by decide +kernel), ?_⟩
  | refine ⟨_, _, _, _, false, rfl, .ty _, .base (.int _), kit_ty (a := "int") (by decide +kernel), ?_⟩
  | refine ⟨_, _, rfl, (by walk_at "sq"), ?_⟩
  | refine ⟨_, _, _, _, rfl, rfl, (by walk_at "sq"), (by first | rfl | assumption), ?_⟩
  | refine Or.inl ⟨_, _, _, _, rfl, rfl, (by walk_at "sq"), (by first | rfl | assumption), ?_⟩
  | refine Or.inr (Or.inl ⟨_, _, _, _, rfl, rfl, (by walk_at "sq"), (by first | rfl | assumption), ?_⟩)
  | refine ⟨_, _, rfl, Or.inl ⟨(by walk_at "sq"), ?_⟩⟩
  | refine ⟨rfl, ?_⟩
  | refine iteT ?_
  | refine iteF ?_
  | refine ⟨_, _, _, _, _, rfl, (by assumption), (by assumption), (by assumption), (by assumption), ?_⟩
  | refine Or.inl ⟨_, rfl, ?_⟩
  | refine ⟨_, _, rfl, (by walk_at "side"), ?_⟩
  | refine ⟨_, _, rfl, ?_⟩)
local macro_rules | `(tactic| walk_at "fld") => `(tactic| skip)
local macro_rules | `(tactic| walk_at "s") => `(tactic| repeat walk_at "1")
local macro_rules | `(tactic| walk_at "size") => `(tactic| first | exact Nat.le_of_ble_eq_true rfl | (simp only [List.length_map, List.length_append, List.length_cons, List.length_nil]; omega))
local macro_rules | `(tactic| walk_at "new") => `(tactic| (first | refine ⟨(by walk_at "size"), fun p hp => ?_⟩ | refine fun p hp => ?_); (generalize hq : upd _ p _ = H1); (obtain ⟨s, e⟩ := new_facts hp hq); clear hq)

theorem upd_facts {H H1 : Hp} {p : Addr} {o : HO} (hq : upd H p o = H1) : H1 p = some o ∧ ∀ b, b ≠ p → H1 b = H b := by
  subst hq
  exact ⟨upd_same, fun b h => upd_ne h⟩

/-- a box of draws -/
def BoxAt (H : Hp) (b : Addr) : Prop := ∃ x y z : Int, 0 ≤ x ∧ H b = some (.lst [.int x, .int y, .int z])
/-- all but the box stands -/
def Bx (b : Addr) (H H' : Hp) : Prop := ∀ c o, c ≠ b → H c = some o → H' c = some o
theorem Bx.of {b : Addr} {H H' : Hp} (s : Same H H') : Bx b H H' := fun c o _ e => s c o e
theorem Bx.trans {b : Addr} {H H1 H2 : Hp} (s : Bx b H H1) (t : Bx b H1 H2) : Bx b H H2 := fun c o n e => t c o n (s c o n e)
theorem Bx.upd {b : Addr} {H : Hp} {o : HO} : Bx b H (upd H b o) := fun c x n e => by
  rw [upd_ne n]
  exact e
theorem Bx.same {b : Addr} {H0 H H' : Hp} (s : Bx b H H') (h : Same H0 H) (n : H0 b = none) : Same H0 H' := fun c o e => s c o (ne_of_none e n) (h c o e)
theorem BoxAt.same {b : Addr} {H H' : Hp} (h : BoxAt H b) (s : Same H H') : BoxAt H' b := by
  obtain ⟨x, y, z, h0, h1⟩ := h
  exact ⟨x, y, z, h0, s _ _ h1⟩
theorem BoxAt.ne {b p : Addr} {H : Hp} (h : BoxAt H b) (n : H p = none) : p ≠ b := by
  obtain ⟨x, y, z, h0, h1⟩ := h
  exact (ne_of_none h1 n).symm
def spTake : Sp := fun vs H Q _ => ∃ (b : Addr) (m : Nat), vs = [.ref b, .int m] ∧ 0 < m ∧ m < 1073741824 ∧ BoxAt H b ∧ ∀ (H' : Hp) (n : Nat), n < m → Bx b H H' → BoxAt H' b → Q (.int n) H'
def spBox (K : PySem.W.Frag) : Sp := fun vs H Q _ => ∃ (a : Addr) (ns : List Int) (k : Nat), vs = [.ref a, .int k] ∧ SqL K H a (ns.map V.int) ∧ ns.length ≤ 63 ∧
  ∀ (H' : Hp) (p : Addr), Same H H' → H p = none → BoxAt H' p → Q (.ref p) H'
section
variable {P : Program} {w : World} {K : PySem.W.Frag} {mg : Str → Option Value} {base : Heap} {C : Addr}
abbrev s_law_take : Stmt := topS 20
theorem sc_law_take : FnScope ["box", "many", "digit", "one"] ["box", "many"] (defScope s_law_take) := ⟨rfl, rfl, rfl, by decide +kernel, rfl, by decide +kernel, by decide +kernel⟩
theorem ok_take (D : Df K mg "_law_take" s_law_take ["box", "many"]) (T : Txt mg) : Own P w K mg base "_law_take" 1 ["box", "many"] spTake := by
  refine D.own sc_law_take (fun vs H Q E h => ?_) (fun fa cdv A outer s H vs Q E hr h => ?_)
  · obtain ⟨_, _, rfl, _⟩ := h
    rfl
  · obtain ⟨b, m, rfl, m0, m1, ⟨x, y, z, x0, hb⟩, k⟩ := h
    have h8 : (0:Int) < 8191 ∧ (8191:Int) < 1073741824 := by decide
    have fin : ∀ (i x' y' z' : Int), 0 ≤ i → i < m → 0 ≤ x' → Q (.int i) (upd H b (.lst [.int x', .int y', .int z'])) := fun i x' y' z' i0 i1 hx => by
      have := k (upd H b (.lst [.int x', .int y', .int z'])) i.toNat (by omega) Bx.upd ⟨x', y', z', hx, upd_same⟩
      rw [show ((i.toNat : Nat) : Int) = i by omega] at this
      exact this
    refine ⟨_, (pss_cons (ps_if (pt_cmpR op_gt (pe_ix ix_list (pv 0) pe_int (fun _ _ => rfl)) pe_int (nomark _))
    (pss_cons (ps_set (i := 2) sc_law_take.nd rfl (Or.inl rfl) (pe_op op_mod (pe_callTy call_int1 (by rfl) T.int (by decide +kernel) (pa_cons (pe_ix ix_list (pv 0) pe_int (fun _ _ => rfl)) pa_nil)) (pv 1)))
      (pss_cons (ps_asg (pe_op op_fdiv (pe_ix ix_list (pv 0) pe_int (fun _ _ => rfl)) (pv 1)) (pg_sub (pv 0) pe_int set_list))
      (pss_one (ps_ret (pv 2)))))
    pss_nil)
  (pss_cons (ps_asg (pe_op op_add (pe_ix ix_list (pv 0) pe_int (fun _ _ => rfl)) pe_int) (pg_sub (pv 0) pe_int set_list))
  (pss_cons (ps_set (i := 3) sc_law_take.nd rfl (Or.inl rfl) (pe_op op_mod (pe_callTy call_int1 (by rfl) T.int (by decide +kernel) (pa_cons (pe_op op_mul (pe_op op_add (pe_ix ix_list (pv 0) pe_int (fun _ _ => rfl)) (pe_op op_mul pe_int (pe_ix ix_list (pv 0) pe_int (fun _ _ => rfl)))) pe_int) pa_nil)) pe_int))
  (pss_cons (ps_asg (pe_op op_add (pe_op op_mod (pe_callTy call_int1 (by rfl) T.int (by decide +kernel) (pa_cons (pe_op op_add (pe_op op_mul (pv 3) pe_int) pe_int) pa_nil)) pe_int) pe_int) (pg_sub (pv 0) pe_int set_list))
  (pss_one (ps_ret (pe_op op_mod (pe_callTy call_int1 (by rfl) T.int (by decide +kernel) (pa_cons (pe_op op_fdiv (pe_op op_add (pe_op op_mul (pv 3) pe_int) (pe_ix ix_list (pv 0) pe_int (fun _ _ => rfl))) pe_int) pa_nil)) (pv 1)))))))), ?_⟩
    walk_at "wps"
    refine ite2 (fun c => ?_) (fun c => ?_)
    · have c' : 0 < x := by simpa using c
      walk_at "wps"
      exact fin _ _ _ _ (Int.emod_nonneg _ (by omega)) (Int.emod_lt_of_pos _ (by omega)) (Int.ediv_nonneg x0 (by omega))
    · walk_at "wps"
      rw [upd_upd]
      exact fin _ _ _ _ (Int.emod_nonneg _ (by omega)) (Int.emod_lt_of_pos _ (by omega)) x0
abbrev s_law_box : Stmt := topS 19
theorem sc_law_box : FnScope ["script", "k", "cell", "seed"] ["script", "k"] (defScope s_law_box) := ⟨rfl, rfl, rfl, by decide +kernel, rfl, by decide +kernel, by decide +kernel⟩
theorem ok_box (D : Df K mg "_law_box" s_law_box ["script", "k"]) (T : Txt mg) : Own P w K mg base "_law_box" 1 ["script", "k"] (spBox K) := by
  refine D.own sc_law_box (fun vs H Q E h => ?_) (fun fa cdv A outer s H vs Q E hr h => ?_)
  · obtain ⟨_, _, _, rfl, _⟩ := h
    rfl
  · obtain ⟨a, ns, k, rfl, hS, hlen, kk⟩ := h
    refine ⟨_, (pss_cons (ps_set (i := 2) sc_law_box.nd rfl (Or.inl rfl) (pe_op op_add (pe_op op_mul pe_int (pv 1)) pe_int))
  (C8.pss_cut (ps_if (pt_cmpR op_lt (pv 1) (pe_callB call_len_seq (by rfl) T.len PySem.boot_len (pa_cons (pv 0) pa_nil)) (nomark _))
    (pss_one (ps_set (i := 2) sc_law_box.nd rfl (Or.inl rfl) (pe_callB call_abs (by rfl) T.abs (by decide +kernel) (pa_cons (pe_ix ix_list (pv 0) (pv 1) (fun _ _ => rfl)) pa_nil))))
    (pss_one (ps_if (pt_cmpR op_gt (pe_callB call_len_seq (by rfl) T.len PySem.boot_len (pa_cons (pv 0) pa_nil)) pe_int (nomark _))
        (pss_one (ps_set (i := 2) sc_law_box.nd rfl (Or.inl rfl) (pe_op op_add (pv 2) (pe_op op_mul (pe_op op_mod (pe_callTy call_int1 (by rfl) T.int (by decide +kernel) (pa_cons (pe_callB call_abs (by rfl) T.abs (by decide +kernel) (pa_cons (pe_callTy call_int1 (by rfl) T.int (by decide +kernel) (pa_cons (pe_ix ix_list (pv 0) (pe_op op_mod (pe_callTy call_int1 (by rfl) T.int (by decide +kernel) (pa_cons (pv 1) pa_nil)) (pe_callB call_len_seq (by rfl) T.len PySem.boot_len (pa_cons (pv 0) pa_nil))) (fun _ _ => rfl)) pa_nil)) pa_nil)) pa_nil)) pe_int) pe_int))))
        pss_nil)))
  (pss_cons (ps_set (i := 3) sc_law_box.nd rfl (Or.inl rfl) (pe_op op_add (pe_op op_mod (pe_callTy call_int1 (by rfl) T.int (by decide +kernel) (pa_cons (pe_op op_add (pe_op op_mul (pe_op op_mod (pe_callTy call_int1 (by rfl) T.int (by decide +kernel) (pa_cons (pv 2) pa_nil)) pe_int) pe_int) (pe_op op_mul pe_int (pv 1))) pa_nil)) pe_int) pe_int))
  (pss_one (ps_ret (pe_lst (pa_cons (pe_ix ix_list (pe_lst (pa_cons pe_int (pa_cons (pv 2) pa_nil))) (pe_callTy call_int1 (by rfl) T.int (by decide +kernel) (pa_cons (pe_cmpR op_ge (pv 2) (pe_op op_pow pe_int pe_int) (nomark _)) pa_nil)) (fun _ _ => rfl)) (pa_cons (pv 3) (pa_cons pe_int pa_nil))))))))), ?_⟩
    walk_at "wps"
    refine ⟨fun σ' H' => (∃ c : Int, σ' = [some (.ref a), some (.int (k : Int)), some (.int c), none]) ∧ H' = H, ?_, ?_⟩
    · walk_at "wps"
      have hl : ((ns.map V.int).length : Int) = (ns.length : Int) := by rw [List.length_map]
      refine ite2 (fun c => ?_) (fun c => ?_)
      · have c' : k < ns.length := by
          have c2 : (k : Int) < ((ns.map V.int).length : Int) := by simpa using c
          omega
        walk_at "wps"
        refine ⟨_, _, _, _, rfl, rfl, hS, atI_nat (List.getElem?_eq_getElem (by rw [List.length_map]; exact c')), ?_⟩
        rw [List.getElem_map]
        walk_at "wps"
        exact ⟨⟨_, rfl⟩, rfl⟩
      · walk_at "wps"
        refine ite2 (fun d => ?_) (fun d => ?_)
        · have d' : 0 < ns.length := by
            have d2 : (0 : Int) < ((ns.map V.int).length : Int) := by simpa using d
            omega
          have hm : (k : Int) % ((ns.map V.int).length : Int) = ((k % ns.length : Nat) : Int) := by rw [hl]; simp
          have lt : k % ns.length < (ns.map V.int).length := by rw [List.length_map]; exact Nat.mod_lt _ d'
          walk_at "wps"
          refine ⟨_, _, _, _, rfl, rfl, hS, at_of hm (List.getElem?_eq_getElem lt), ?_⟩
          rw [List.getElem_map]
          walk_at "wps"
          exact ⟨⟨_, rfl⟩, rfl⟩
        · exact ⟨⟨_, rfl⟩, rfl⟩
    · rintro σ' H' ⟨⟨c, rfl⟩, rfl⟩
      walk_at "wps"
      refine ⟨Nat.le_of_ble_eq_true rfl, fun q hq => ?_⟩
      walk_at "wps"
      refine Or.inr ⟨_, rfl, ?_⟩
      have s1 : Same H' (upd H' q (.lst [.int 0, .int c])) := fun b o e => by
        rw [upd_ne (ne_of_none e hq)]
        exact e
      have fin : ∀ x : Int, 0 ≤ x → ∀ y : Int, ∀ p : Addr, upd H' q (.lst [.int 0, .int c]) p = none → Q (.ref p) (upd (upd H' q (.lst [.int 0, .int c])) p (.lst [.int x, .int y, .int 0])) := fun x x0 y p hp =>
        kk _ p (s1.trans fun b o e => by rw [upd_ne (ne_of_none e hp)]; exact e) (s1.free hp) ⟨x, y, 0, x0, upd_same⟩
      by_cases big : (10 : Int) ^ (18 : Int).toNat ≤ c
      · rw [decide_eq_true big]
        refine ⟨_, _, _, _, rfl, rfl, SqL.of upd_same, rfl, ?_⟩
        walk_at "wps"
        exact ⟨Nat.le_of_ble_eq_true rfl, fun p hp => fin c (Int.le_trans (by decide) big) _ p hp⟩
      · rw [decide_eq_false big]
        refine ⟨_, _, _, _, rfl, rfl, SqL.of upd_same, rfl, ?_⟩
        walk_at "wps"
        exact ⟨Nat.le_of_ble_eq_true rfl, fun p hp => fin 0 (Int.le_refl _) _ p hp⟩
abbrev s_law_pick : Stmt := topS 21
theorem sc_law_pick : FnScope ["box", "some"] ["box", "some"] (defScope s_law_pick) := ⟨rfl, rfl, rfl, by decide +kernel, rfl, by decide +kernel, by decide +kernel⟩
def spPick : Sp := fun vs H Q _ => ∃ (b a : Addr) (xs : List V), vs = [.ref b, .ref a] ∧ BoxAt H b ∧ a ≠ b ∧ H a = some (.lst xs) ∧ 0 < xs.length ∧ xs.length < 1000 ∧ ∀ (H' : Hp) (x : V), x ∈ xs → Bx b H H' → BoxAt H' b → Q x H'
theorem ok_pick (D : Df K mg "_law_pick" s_law_pick ["box", "some"]) (T : Txt mg) (o_law_take : Own P w K mg base "_law_take" 1 ["box", "many"] spTake) : Own P w K mg base "_law_pick" 2 ["box", "some"] spPick := by
  refine D.own sc_law_pick (fun vs H Q E h => ?_) (fun fa cdv A outer s H vs Q E hr h => ?_)
  · obtain ⟨_, _, _, rfl, _⟩ := h
    rfl
  · obtain ⟨b, a, xs, rfl, hb, nab, ha, l0, l1, k⟩ := h
    refine ⟨_, (pss_one (ps_ret (pe_ix ix_list (pv 1) (pe_own o_law_take (hr.mono (by decide)) (pa_cons (pv 0) (pa_cons (pe_callB call_len_seq (by rfl) T.len PySem.boot_len (pa_cons (pv 1) pa_nil)) pa_nil))) (fun _ _ => rfl)))), ?_⟩
    walk_at "s"
    refine ⟨by omega, hb, fun H1 n hn s1 b1 => ?_⟩
    have ha1 := s1 _ _ nab ha
    have hx : xs[n]? = some xs[n] := List.getElem?_eq_getElem hn
    refine ⟨_, _, _, _, rfl, rfl, SqL.of ha1, atI_nat hx, ?_⟩
    exact k _ _ (List.getElem_mem hn) s1 b1
end
end My

namespace My
open PySem PySem.Spec PyProof.Rows L2
local macro_rules | `(tactic| walk_at "side") => `(tactic| first | (dsimp only; omega) | exact ⟨by omega, by omega⟩ | exact Or.inl ⟨by omega, by omega⟩ | exact Or.inr ⟨by omega, by omega⟩ | decide)
local macro_rules | `(tactic| walk_at "sq") => `(tactic| first | assumption | exact SqL.of (by assumption) | exact SqT.of (by assumption) | (refine L2.Same.seq (by assumption) ?_; walk_at "sq") | (refine L2.Same.seqT (by assumption) ?_; walk_at "sq") | exact Or.inl (by walk_at "sq") | exact Or.inr (by walk_at "sq"))
local macro_rules | `(tactic| walk_at "1") => `(tactic| first
  | refine ⟨_, rfl, iteT ?_⟩
  | refine ⟨_, rfl, iteF ?_⟩
  | refine ⟨_, rfl, ?_⟩
  | refine ⟨_, _, rfl, rfl, (by walk_at "side"), ?_⟩
  | refine ⟨_, _, rfl, rfl, ?_⟩
  | refine ⟨_, _, _, _, true, rfl, .ty _, .base (.int _), kit_ty (a := "int") (by decide +kernel), ?_⟩
  | refine ⟨_, _, _, _, false, rfl, .ty _, .base (.int _), kit_ty (a := "int") (by decide +kernel), ?_⟩
  | refine ⟨_, _, rfl, (by walk_at "sq"), ?_⟩
  | refine ⟨_, _, _, _, rfl, rfl, (by walk_at "sq"), (by first | rfl | assumption), ?_⟩
  | refine Or.inl ⟨_, _, _, _, rfl, rfl, (by walk_at "sq"), (by first | rfl | assumption), ?_⟩
  | refine Or.inr (Or.inl ⟨_, _, _, _, rfl, rfl, (by walk_at "sq"), (by first | rfl | assumption), ?_⟩)
  | refine ⟨_, _, rfl, Or.inl ⟨(by walk_at "sq"), ?_⟩⟩
  | refine ⟨rfl, ?_⟩
  | refine iteT ?_
  | refine iteF ?_
  | refine ⟨_, _, _, _, _, rfl, (by assumption), (by assumption), (by assumption), (by assumption), ?_⟩
  | refine Or.inl ⟨_, rfl, ?_⟩
  | refine Or.inr ⟨_, rfl, ?_⟩
  | refine ⟨_, _, rfl, (by walk_at "side"), ?_⟩
  | refine ⟨_, _, rfl, ?_⟩)
local macro_rules | `(tactic| walk_at "fld") => `(tactic| skip)
local macro_rules | `(tactic| walk_at "s") => `(tactic| repeat walk_at "1")
local macro_rules | `(tactic| walk_at "size") => `(tactic| first | exact Nat.le_of_ble_eq_true rfl | (simp only [List.length_map, List.length_append, List.length_cons, List.length_nil]; omega))
local macro_rules | `(tactic| walk_at "new") => `(tactic| (first | refine ⟨(by walk_at "size"), fun p hp => ?_⟩ | refine fun p hp => ?_); (generalize hq : upd _ p _ = H1); (obtain ⟨s, e⟩ := new_facts hp hq); clear hq)

open MyG MyX
/-- the sixteen classes of errors, in order, and their base class -/
structure Named (mg : Str → Option Value) (c : Nat → Addr) (W : Addr) : Prop where
  n0 : mg "InvalidRow" = some (.ref (c 0))
  n1 : mg "InvalidModule" = some (.ref (c 1))
  n2 : mg "InvalidTally" = some (.ref (c 2))
  n3 : mg "InvalidHouse" = some (.ref (c 3))
  n4 : mg "InvalidText" = some (.ref (c 4))
  n5 : mg "InvalidArrivals" = some (.ref (c 5))
  n6 : mg "InvalidWishes" = some (.ref (c 6))
  n7 : mg "InvalidLog" = some (.ref (c 7))
  n8 : mg "InvalidMenu" = some (.ref (c 8))
  n9 : mg "InvalidGoals" = some (.ref (c 9))
  n10 : mg "Refused" = some (.ref (c 10))
  n11 : mg "NeverGoes" = some (.ref (c 11))
  n12 : mg "InvalidContract" = some (.ref (c 12))
  n13 : mg "InvalidChoice" = some (.ref (c 13))
  n14 : mg "InvalidCommand" = some (.ref (c 14))
  n15 : mg "NoPlace" = some (.ref (c 15))
  nW : mg "WaitError" = some (.ref W)
/-- how isinstance tells them apart -/
structure Kinds (K : PySem.W.Frag) (c : Nat → Addr) (W : Addr) : Prop where
  X : ∀ i, i < 16 → ExcC K (c i)
  XW : ExcC K W
  k : ∀ i j, i < 16 → j < 16 → PySem.W.kitOne K (.ref (c i)) (.ref (c j)) = some (decide (i = j))
  kW : ∀ i, i < 16 → PySem.W.kitOne K (.ref (c i)) (.ref W) = some (decide (i < 15))
  kV : ∀ i, i < 16 → PySem.W.kitOne K (.ref (c i)) (.type "ValueError") = some (decide (i < 15))
  kK : ∀ i, i < 16 → PySem.W.kitOne K (.ref (c i)) (.type "KeyError") = some (decide (i = 15))
  wk : ∀ j, j < 16 → PySem.W.kitOne K (.ref W) (.ref (c j)) = some false
  wV : PySem.W.kitOne K (.ref W) (.type "ValueError") = some true
/-- the sixteen answers -/
def bls (g : Nat → Bool) : List V := (List.range 16).map fun j => .bl (g j)
def spKinds (K : PySem.W.Frag) (c : Nat → Addr) : Sp := fun vs H Q _ => ∃ (a C : Addr) (g : Nat → Bool), vs = [.ref a] ∧ ErrOf H a C ∧ ExcC K C ∧ (∀ j, j < 16 → PySem.W.kitOne K (.ref C) (.ref (c j)) = some (g j)) ∧
  ∀ H' p, Same H H' → H' p = some (.lst (bls g)) → Q (.ref p) H'
section
variable {P : Program} {w : World} {K : PySem.W.Frag} {mg : Str → Option Value} {base : Heap} {c : Nat → Addr} {W : Addr}
abbrev s_law_kinds : Stmt := topS 23
theorem sc_law_kinds : FnScope ["made", "found"] ["made"] (defScope s_law_kinds) := ⟨rfl, rfl, rfl, by decide +kernel, rfl, by decide +kernel, by decide +kernel⟩
set_option maxHeartbeats 8000000 in
theorem ok_kinds (D : Df K mg "_law_kinds" s_law_kinds ["made"]) (T : Txt mg) (N : Named mg c W) : Own P w K mg base "_law_kinds" 1 ["made"] (spKinds K c) := by
  refine D.own sc_law_kinds (fun vs H Q E h => ?_) (fun fa cdv A outer s H vs Q E hr h => ?_)
  · obtain ⟨_, _, _, rfl, _⟩ := h
    rfl
  · obtain ⟨a, C, g, rfl, he, hC, hk, k⟩ := h
    refine ⟨_, (pss_cons (ps_set (i := 1) sc_law_kinds.nd rfl (Or.inl rfl) (pe_lst (pa_cons (pe_callB call_isErr (by rfl) T.isinstance (by decide +kernel) (pa_cons (pv 0) (pa_cons (pe_glob (v := .ref (c 0)) (by rfl) N.n0 rfl) pa_nil))) (pa_cons (pe_callB call_isErr (by rfl) T.isinstance (by decide +kernel) (pa_cons (pv 0) (pa_cons (pe_glob (v := .ref (c 1)) (by rfl) N.n1 rfl) pa_nil))) (pa_cons (pe_callB call_isErr (by rfl) T.isinstance (by decide +kernel) (pa_cons (pv 0) (pa_cons (pe_glob (v := .ref (c 2)) (by rfl) N.n2 rfl) pa_nil))) pa_nil)))))
      (pss_cons (ps_set (i := 1) sc_law_kinds.nd rfl (Or.inl rfl) (pe_op op_cat (pv 1) (pe_lst (pa_cons (pe_callB call_isErr (by rfl) T.isinstance (by decide +kernel) (pa_cons (pv 0) (pa_cons (pe_glob (v := .ref (c 3)) (by rfl) N.n3 rfl) pa_nil))) (pa_cons (pe_callB call_isErr (by rfl) T.isinstance (by decide +kernel) (pa_cons (pv 0) (pa_cons (pe_glob (v := .ref (c 4)) (by rfl) N.n4 rfl) pa_nil))) (pa_cons (pe_callB call_isErr (by rfl) T.isinstance (by decide +kernel) (pa_cons (pv 0) (pa_cons (pe_glob (v := .ref (c 5)) (by rfl) N.n5 rfl) pa_nil))) pa_nil))))))
      (pss_cons (ps_set (i := 1) sc_law_kinds.nd rfl (Or.inl rfl) (pe_op op_cat (pv 1) (pe_lst (pa_cons (pe_callB call_isErr (by rfl) T.isinstance (by decide +kernel) (pa_cons (pv 0) (pa_cons (pe_glob (v := .ref (c 6)) (by rfl) N.n6 rfl) pa_nil))) (pa_cons (pe_callB call_isErr (by rfl) T.isinstance (by decide +kernel) (pa_cons (pv 0) (pa_cons (pe_glob (v := .ref (c 7)) (by rfl) N.n7 rfl) pa_nil))) (pa_cons (pe_callB call_isErr (by rfl) T.isinstance (by decide +kernel) (pa_cons (pv 0) (pa_cons (pe_glob (v := .ref (c 8)) (by rfl) N.n8 rfl) pa_nil))) pa_nil))))))
      (pss_cons (ps_set (i := 1) sc_law_kinds.nd rfl (Or.inl rfl) (pe_op op_cat (pv 1) (pe_lst (pa_cons (pe_callB call_isErr (by rfl) T.isinstance (by decide +kernel) (pa_cons (pv 0) (pa_cons (pe_glob (v := .ref (c 9)) (by rfl) N.n9 rfl) pa_nil))) (pa_cons (pe_callB call_isErr (by rfl) T.isinstance (by decide +kernel) (pa_cons (pv 0) (pa_cons (pe_glob (v := .ref (c 10)) (by rfl) N.n10 rfl) pa_nil))) (pa_cons (pe_callB call_isErr (by rfl) T.isinstance (by decide +kernel) (pa_cons (pv 0) (pa_cons (pe_glob (v := .ref (c 11)) (by rfl) N.n11 rfl) pa_nil))) pa_nil))))))
      (pss_cons (ps_set (i := 1) sc_law_kinds.nd rfl (Or.inl rfl) (pe_op op_cat (pv 1) (pe_lst (pa_cons (pe_callB call_isErr (by rfl) T.isinstance (by decide +kernel) (pa_cons (pv 0) (pa_cons (pe_glob (v := .ref (c 12)) (by rfl) N.n12 rfl) pa_nil))) (pa_cons (pe_callB call_isErr (by rfl) T.isinstance (by decide +kernel) (pa_cons (pv 0) (pa_cons (pe_glob (v := .ref (c 13)) (by rfl) N.n13 rfl) pa_nil))) pa_nil)))))
      (pss_one (ps_ret (pe_op op_cat (pv 1) (pe_lst (pa_cons (pe_callB call_isErr (by rfl) T.isinstance (by decide +kernel) (pa_cons (pv 0) (pa_cons (pe_glob (v := .ref (c 14)) (by rfl) N.n14 rfl) pa_nil))) (pa_cons (pe_callB call_isErr (by rfl) T.isinstance (by decide +kernel) (pa_cons (pv 0) (pa_cons (pe_glob (v := .ref (c 15)) (by rfl) N.n15 rfl) pa_nil))) pa_nil))))))))))), ?_⟩
    refine ⟨_, rfl, a, C, _, _, g 0, rfl, he, hC, fun _ r => r, hk 0 (by decide), ?_⟩
    refine ⟨_, rfl, a, C, _, _, g 1, rfl, he, hC, fun _ r => r, hk 1 (by decide), ?_⟩
    refine ⟨_, rfl, a, C, _, _, g 2, rfl, he, hC, fun _ r => r, hk 2 (by decide), ?_⟩
    walk_at "new"
    rename_i p0 n0 H0 s0 e0
    have he0 := s0.errOf he
    refine ⟨_, rfl, ?_⟩
    refine ⟨_, rfl, a, C, _, _, g 3, rfl, he0, hC, fun _ r => r, hk 3 (by decide), ?_⟩
    refine ⟨_, rfl, a, C, _, _, g 4, rfl, he0, hC, fun _ r => r, hk 4 (by decide), ?_⟩
    refine ⟨_, rfl, a, C, _, _, g 5, rfl, he0, hC, fun _ r => r, hk 5 (by decide), ?_⟩
    walk_at "new"
    rename_i p1 n1 H1 s1 e1
    refine ⟨_, _, _, _, rfl, rfl, s1 _ _ e0, e1, ?_⟩
    walk_at "new"
    rename_i p2 n2 H2 s2 e2
    have he2 := s2.errOf (s1.errOf he0)
    have t2 : Same H0 H2 := s1.trans s2
    refine ⟨_, rfl, ?_⟩
    refine ⟨_, rfl, a, C, _, _, g 6, rfl, he2, hC, fun _ r => r, hk 6 (by decide), ?_⟩
    refine ⟨_, rfl, a, C, _, _, g 7, rfl, he2, hC, fun _ r => r, hk 7 (by decide), ?_⟩
    refine ⟨_, rfl, a, C, _, _, g 8, rfl, he2, hC, fun _ r => r, hk 8 (by decide), ?_⟩
    walk_at "new"
    rename_i p3 n3 H3 s3 e3
    refine ⟨_, _, _, _, rfl, rfl, s3 _ _ e2, e3, ?_⟩
    walk_at "new"
    rename_i p4 n4 H4 s4 e4
    have he4 := s4.errOf (s3.errOf he2)
    have t4 : Same H2 H4 := s3.trans s4
    refine ⟨_, rfl, ?_⟩
    refine ⟨_, rfl, a, C, _, _, g 9, rfl, he4, hC, fun _ r => r, hk 9 (by decide), ?_⟩
    refine ⟨_, rfl, a, C, _, _, g 10, rfl, he4, hC, fun _ r => r, hk 10 (by decide), ?_⟩
    refine ⟨_, rfl, a, C, _, _, g 11, rfl, he4, hC, fun _ r => r, hk 11 (by decide), ?_⟩
    walk_at "new"
    rename_i p5 n5 H5 s5 e5
    refine ⟨_, _, _, _, rfl, rfl, s5 _ _ e4, e5, ?_⟩
    walk_at "new"
    rename_i p6 n6 H6 s6 e6
    have he6 := s6.errOf (s5.errOf he4)
    have t6 : Same H4 H6 := s5.trans s6
    refine ⟨_, rfl, ?_⟩
    refine ⟨_, rfl, a, C, _, _, g 12, rfl, he6, hC, fun _ r => r, hk 12 (by decide), ?_⟩
    refine ⟨_, rfl, a, C, _, _, g 13, rfl, he6, hC, fun _ r => r, hk 13 (by decide), ?_⟩
    walk_at "new"
    rename_i p7 n7 H7 s7 e7
    refine ⟨_, _, _, _, rfl, rfl, s7 _ _ e6, e7, ?_⟩
    walk_at "new"
    rename_i p8 n8 H8 s8 e8
    have he8 := s8.errOf (s7.errOf he6)
    have t8 : Same H6 H8 := s7.trans s8
    refine ⟨_, rfl, ?_⟩
    refine ⟨_, rfl, a, C, _, _, g 14, rfl, he8, hC, fun _ r => r, hk 14 (by decide), ?_⟩
    refine ⟨_, rfl, a, C, _, _, g 15, rfl, he8, hC, fun _ r => r, hk 15 (by decide), ?_⟩
    walk_at "new"
    rename_i p9 n9 H9 s9 e9
    refine ⟨_, _, _, _, rfl, rfl, s9 _ _ e8, e9, ?_⟩
    walk_at "new"
    rename_i p10 n10 H10 s10 e10
    have he10 := s10.errOf (s9.errOf he8)
    have t10 : Same H8 H10 := s9.trans s10
    exact k _ _ (Same.trans (Same.trans (Same.trans (Same.trans (Same.trans s0 t2) t4) t6) t8) t10) e10
end
end My

namespace My
open PySem PySem.Spec PyProof.Rows L2
local macro_rules | `(tactic| walk_at "side") => `(tactic| first | (dsimp only; omega) | exact ⟨by omega, by omega⟩ | exact Or.inl ⟨by omega, by omega⟩ | exact Or.inr ⟨by omega, by omega⟩ | decide)
local macro_rules | `(tactic| walk_at "sq") => `(tactic| first | assumption | exact SqL.of (by assumption) | exact SqT.of (by assumption) | (refine L2.Same.seq (by assumption) ?_; walk_at "sq") | (refine L2.Same.seqT (by assumption) ?_; walk_at "sq") | exact Or.inl (by walk_at "sq") | exact Or.inr (by walk_at "sq"))
local macro_rules | `(tactic| walk_at "1") => `(tactic| first
  | refine ⟨_, rfl, iteT ?_⟩
  | refine ⟨_, rfl, iteF ?_⟩
  | refine ⟨_, rfl, ?_⟩
  | refine ⟨_, _, rfl, rfl, (by walk_at "side"), ?_⟩
  | refine ⟨_, _, rfl, rfl, ?_⟩
  | refine ⟨_, _, _, _, true, rfl, .ty _, .base (.int _), kit_ty (a := "int") (by decide +kernel), ?_⟩
  | refine ⟨_, _, _, _, false, rfl, .ty _, .base (.int _), kit_ty (a := "int") (by decide +kernel), ?_⟩
  | refine ⟨_, _, rfl, (by walk_at "sq"), ?_⟩
  | refine ⟨_, _, _, _, rfl, rfl, (by walk_at "sq"), (by first | rfl | assumption), ?_⟩
  | refine Or.inl ⟨_, _, _, _, rfl, rfl, (by walk_at "sq"), (by first | rfl | assumption), ?_⟩
  | refine Or.inr (Or.inl ⟨_, _, _, _, rfl, rfl, (by walk_at "sq"), (by first | rfl | assumption), ?_⟩)
  | refine ⟨_, _, rfl, Or.inl ⟨(by walk_at "sq"), ?_⟩⟩
  | refine ⟨rfl, ?_⟩
  | refine iteT ?_
  | refine iteF ?_
  | refine ⟨_, _, _, _, _, rfl, (by assumption), (by assumption), (by assumption), (by assumption), ?_⟩
  | refine Or.inl ⟨_, rfl, ?_⟩
  | refine Or.inr ⟨_, rfl, ?_⟩
  | refine ⟨_, _, rfl, (by walk_at "side"), ?_⟩
  | refine ⟨_, _, rfl, ?_⟩)
local macro_rules | `(tactic| walk_at "fld") => `(tactic| skip)
local macro_rules | `(tactic| walk_at "s") => `(tactic| repeat walk_at "1")
local macro_rules | `(tactic| walk_at "size") => `(tactic| first | exact Nat.le_of_ble_eq_true rfl | (simp only [List.length_map, List.length_append, List.length_cons, List.length_nil]; omega))
local macro_rules | `(tactic| walk_at "new") => `(tactic| (first | refine ⟨(by walk_at "size"), fun p hp => ?_⟩ | refine fun p hp => ?_); (generalize hq : upd _ p _ = H1); (obtain ⟨s, e⟩ := new_facts hp hq); clear hq)

open MyG MyX
def spOwnE (c : Nat → Addr) : Sp := fun vs H Q _ => ∃ (a : Addr) (i : Nat), vs = [.ref a, .int (i : Int)] ∧ i < 16 ∧ ErrOf H a (c i) ∧ ∀ H', Same H H' → Q (.bl true) H'
section
variable {P : Program} {w : World} {K : PySem.W.Frag} {mg : Str → Option Value} {base : Heap} {c : Nat → Addr} {W : Addr}
theorem eqv_bls : ∀ i : Nat, i < 16 → PyData.eqv (.list ((List.range 16).map fun j => PyData.bool (decide (i = j)))) (.list ((List.range 16).map fun j => PyData.bool (decide (((j : Nat) : Int) = (i : Int))))) = true := by decide +kernel
theorem sh_eq : ∀ i : Nat, i < 16 → SeqAt.shaped (.list ((List.range 16).map fun j => PyData.bool (decide (i = j)))) = true := by decide +kernel
theorem sh_eqI : ∀ i : Nat, i < 16 → SeqAt.shaped (.list ((List.range 16).map fun j => PyData.bool (decide (((j : Nat) : Int) = (i : Int))))) = true := by decide +kernel
theorem dp_bls {K : PySem.W.Frag} {H : Hp} {p : Addr} (g : Nat → Bool) (e : H p = some (.lst (bls g))) : Dp K H (.ref p) (.list ((List.range 16).map fun j => PyData.bool (g j))) := by
  refine .lst (SqL.of e) ?_
  unfold bls
  generalize List.range 16 = l
  induction l with
  | nil => exact .nil
  | cons x l ih => exact .cons (.bl _) ih
theorem vint_eq (i j : Int) : decide (V.int i = V.int j) = decide (i = j) := decide_eq_decide.mpr ⟨V.int.inj, fun e => by rw [e]⟩
abbrev s_law_is_own : Stmt := topS 24
theorem sc_law_is_own : FnScope ["made", "spot", "n"] ["made", "spot"] (defScope s_law_is_own) := ⟨rfl, rfl, rfl, by decide +kernel, rfl, by decide +kernel, by decide +kernel⟩
set_option maxHeartbeats 8000000 in
theorem ok_is_own (D : Df K mg "_law_is_own" s_law_is_own ["made", "spot"]) (T : Txt mg) (N : Named mg c W) (Z : Kinds K c W) (o_law_kinds : Own P w K mg base "_law_kinds" 1 ["made"] (spKinds K c)) : Own P w K mg base "_law_is_own" 2 ["made", "spot"] (spOwnE c) := by
  refine D.own sc_law_is_own (fun vs H Q E h => ?_) (fun fa cdv A outer s H vs Q E hr h => ?_)
  · obtain ⟨_, _, rfl, _⟩ := h
    rfl
  · obtain ⟨a, i, rfl, hi, he, k⟩ := h
    refine ⟨_, (pss_cons (ps_if (PW.pt (pw_or (pt_cmpR op_ne (pe_callB call_isErr (by rfl) T.isinstance (by decide +kernel) (pa_cons (pv 0) (pa_cons (pe_glob (v := .ref W) (by rfl) N.nW rfl) pa_nil))) (pe_cmpR op_lt (pv 1) pe_int (nomark _)) (nomark _)) (pw_or1 (pt_cmpR op_ne (pe_callB call_isErr (by rfl) T.isinstance (by decide +kernel) (pa_cons (pv 0) (pa_cons (pe_bltn (v := .ty "ValueError") (u := .type "ValueError") (by rfl) T.ve (by decide +kernel) rfl) pa_nil))) (pe_cmpR op_lt (pv 1) pe_int (nomark _)) (nomark _)))))
    (pss_one (ps_ret pe_bl))
    pss_nil)
  (pss_one (ps_ret (pe_and (pe_cmpR op_eq (pe_callB call_isErr (by rfl) T.isinstance (by decide +kernel) (pa_cons (pv 0) (pa_cons (pe_bltn (v := .ty "KeyError") (u := .type "KeyError") (by rfl) T.ke (by decide +kernel) rfl) pa_nil))) (pe_cmpR op_eq (pv 1) pe_int (nomark _)) (nomark _)) (pe_one (pe_cmpR (op_eqD hr.units) (pe_own o_law_kinds (hr.mono (by decide)) (pa_cons (pv 0) pa_nil)) (pe_lc (own := [("n", 2)]) (g := gName 2) (tt := tYes) rfl sc_law_is_own.nd (pi_range1 (by rfl) T.range (pa_cons pe_int pa_nil)) (blkOk_by (own := [("n", 2)]) (N := ["made", "spot", "n"]) (sc := defScope s_law_is_own) (by decide +kernel)) (fun _ _ _ _ _ => (pg_name (i := 2) sc_law_is_own.nd rfl (Or.inl rfl))) (fun _ _ _ _ _ => pts_nil) (fun _ _ _ _ _ => (pe_cmpR op_eq (pv 2) (pv 1) (nomark _)))) (nomark _))))))), ?_⟩
    refine ⟨_, rfl, a, _, _, _, _, rfl, he, Z.X i hi, fun _ r => r, Z.kW i hi, ?_⟩
    have e15 : decide (i < 15) = decide ((i : Int) < 15) := decide_eq_decide.mpr (by omega)
    have q15 : decide (i = 15) = decide (V.int (i : Int) = V.int 15) := decide_eq_decide.mpr ⟨fun e => by rw [e]; rfl, fun e => by have := V.int.inj e; omega⟩
    have u1 : (!decide (V.bl (decide (i < 15)) = V.bl (decide ((i : Int) < 15)))) = false := by rw [e15]; simp
    have u2 : decide (V.bl (decide (i = 15)) = V.bl (decide (V.int (i : Int) = V.int 15))) = true := by rw [q15]; simp
    refine ⟨_, rfl, _, _, rfl, rfl, rfl, _, rfl, ?_⟩
    rw [u1]
    refine iteF ?_
    refine ⟨_, rfl, a, _, _, _, _, rfl, he, Z.X i hi, fun _ r => r, Z.kV i hi, ?_⟩
    refine ⟨_, rfl, _, _, rfl, rfl, rfl, _, rfl, ?_⟩
    rw [u1]
    refine iteF ?_
    refine ⟨_, rfl, a, _, _, _, _, rfl, he, Z.X i hi, fun _ r => r, Z.kK i hi, ?_⟩
    refine ⟨_, rfl, rfl, rfl, _, rfl, ?_⟩
    rw [u2]
    refine iteT ?_
    refine ⟨_, rfl, a, c i, fun j => decide (i = j), rfl, he, Z.X i hi, fun j hj => Z.k i j hi hj, fun H1 p s1 e1 => ?_⟩
    refine ⟨16, rfl, by decide, by decide, fun L nL => lc_range (lo := 0) (n := 16) (fun j H' => Same H1 H' ∧ H' L = some (.lst ((List.range j).map fun j : Nat => V.bl (decide ((j : Int) = (i : Int)))))) ⟨same_upd nL, upd_same⟩ ?_ ?_⟩
    · rintro j H' hj ⟨s2, e2⟩
      refine ⟨rfl, ?_⟩
      refine ⟨_, rfl, _, rfl, rfl, _, e2, ?_, s2.upd1 nL, ?_⟩
      · rw [List.length_map, List.length_range]
        exact small1000 (by omega)
      · rw [upd_same, List.range_succ, List.map_append, vint_eq, Int.zero_add]
        rfl
    · rintro H' ⟨s2, e2⟩
      refine ⟨_, _, dp_bls _ (s2 _ _ e1), dp_bls _ e2, sh_eq i hi, sh_eqI i hi, ?_⟩
      rw [eqv_bls i hi]
      exact k _ (s1.trans s2)
end
end My

namespace My
open PySem PySem.Spec PyProof.Rows L2 MyG MyX
/-! what a thing is, as data -/
def thg : Nat → PyData
  | 0 => .none
  | 1 => .bool true
  | 2 => .int 0
  | 3 => .str "a"
  | 4 => .tuple []
  | 5 => .list [.int 1]
  | _ => .tuple [.int 2, .list [.int 3]]
def dT (x k : Nat) : PyData := .list [thg x, .int (k : Int)]
def dO (d : Nat) : PyData := .list [.str "x", .int (d : Int), .str "y"]
def plain (d : PyData) : Bool := d.showable && (!d.hasDict && decide (d.depth ≤ 30))
/-- the three things that are shown -/
def dW (n x k d : Nat) : PyData := .list (List.replicate n (dT x k) ++ List.replicate n (dO d))
def dR (x k d : Nat) : PyData := .list [dT x k, dO d, dT x k, dO d]
set_option maxHeartbeats 2000000 in
theorem plain_W : ∀ x, x < 7 → ∀ k, k < 3 → ∀ d, d < 9 → (plain (dW 3 x k d) && plain (dW 8 x k d) && plain (dR x k d)) = true := by decide +kernel
theorem text_le (b : Nat) : ∀ (ts : List Str) (k : Nat) (acc : Str), (∀ t ∈ ts, t.length ≤ b) → (textFrom k acc ts).length ≤ acc.length + ts.length * (b + 2)
  | [], k, acc, _ => by show acc.length ≤ _; omega
  | t :: r, k, acc, h => by
    have ih := text_le b r (k + 1) (acc ++ (if k > 0 then ", " else "" : String) ++ t) fun u hu => h u (List.mem_cons_of_mem _ hu)
    have ht := h t List.mem_cons_self
    have e : (acc ++ (if k > 0 then ", " else "" : String) ++ t).length ≤ acc.length + 2 + t.length := by
      rw [PySem.Str.length_append, PySem.Str.length_append]
      have : (Str.ofString (if k > 0 then ", " else "" : String)).length ≤ 2 := by
        split <;> decide
      omega
    show (textFrom (k + 1) (acc ++ (if k > 0 then ", " else "" : String) ++ t) r).length ≤ _
    rw [List.length_cons, Nat.add_mul]
    omega
theorem all_le {b : Nat} : ∀ {ds : List PyData}, (∀ d ∈ ds, d.shown.length ≤ b) → (∀ t ∈ PyData.shownAll ds, t.length ≤ b) ∧ (PyData.shownAll ds).length = ds.length
  | [], _ => ⟨(fun _ z => nomatch z), rfl⟩
  | d :: ds, h => by
    have ih := all_le (ds := ds) fun e he => h e (List.mem_cons_of_mem _ he)
    refine ⟨fun t ht => ?_, ?_⟩
    · have ht' : t ∈ d.shown :: PyData.shownAll ds := ht
      rcases List.mem_cons.mp ht' with rfl | ht'
      · exact h d List.mem_cons_self
      · exact ih.1 t ht'
    · show (d.shown :: PyData.shownAll ds).length = _
      rw [List.length_cons, List.length_cons, ih.2]
theorem list_le {b n m : Nat} {ds : List PyData} (h : ∀ d ∈ ds, d.shown.length ≤ b) (hn : ds.length ≤ n) (hm : 2 + n * (b + 2) ≤ m) : (PyData.list ds).shown.length ≤ m := by
  obtain ⟨h1, h2⟩ := all_le h
  have h3 := text_le b (PyData.shownAll ds) 0 "[" h1
  have h4 : ds.length * (b + 2) ≤ n * (b + 2) := Nat.mul_le_mul_right _ hn
  show (textFrom 0 "[" (PyData.shownAll ds) ++ (("]" : String) : Str)).length ≤ _
  rw [PySem.Str.length_append]
  rw [h2] at h3
  have l1 : (Str.ofString "[").length = 1 := by decide
  have l2 : (Str.ofString "]").length = 1 := by decide
  have e1 : ((("[" : String) : Str)).length = 1 := l1
  have e2 : ((("]" : String) : Str)).length = 1 := l2
  omega
theorem thg_le : ∀ x, x < 7 → (thg x).shown.length ≤ 20 := by decide +kernel
theorem int_le : ∀ k : Nat, k < 9 → (PyData.int (k : Int)).shown.length ≤ 20 := by decide +kernel
theorem x_le : (PyData.str "x").shown.length ≤ 20 ∧ (PyData.str "y").shown.length ≤ 20 := by decide +kernel
theorem dT_le {x k : Nat} (hx : x < 7) (hk : k < 3) : (dT x k).shown.length ≤ 70 :=
  list_le (b := 20) (n := 2) (fun d hd => by
    rcases List.mem_cons.mp hd with rfl | hd
    · exact thg_le x hx
    · rw [List.mem_singleton.mp hd]
      exact int_le k (by omega)) (Nat.le_refl _) (by decide)
theorem dO_le {d : Nat} (hd : d < 9) : (dO d).shown.length ≤ 70 :=
  list_le (b := 20) (n := 3) (fun e he => by
    rcases List.mem_cons.mp he with rfl | he
    · exact x_le.1
    · rcases List.mem_cons.mp he with rfl | he
      · exact int_le d hd
      · rw [List.mem_singleton.mp he]
        exact x_le.2) (Nat.le_refl _) (by decide)
/-- what the three repr ask -/
structure Shows (d : PyData) : Prop where
  sh : d.showable = true
  nd : d.hasDict = false
  de : d.depth ≤ 30
  le : d.shown.length ≤ sizeLine
theorem shows_of {d : PyData} (p : plain d = true) (l : d.shown.length ≤ 2000) : Shows d := by
  unfold plain at p
  rw [Bool.and_eq_true, Bool.and_eq_true, Bool.not_eq_true'] at p
  have := sizeLine_eq
  exact ⟨p.1, p.2.1, of_decide_eq_true p.2.2, by omega⟩
theorem shows_all {x k d : Nat} (hx : x < 7) (hk : k < 3) (hd : d < 9) : Shows (dW 3 x k d) ∧ Shows (dW 8 x k d) ∧ Shows (dR x k d) := by
  obtain ⟨p12, p3⟩ := Bool.and_eq_true_iff.mp (plain_W x hx k hk d hd)
  obtain ⟨p1, p2⟩ := Bool.and_eq_true_iff.mp p12
  clear p12
  have h1 := dT_le hx hk
  have h2 := dO_le hd
  have each : ∀ n, ∀ e ∈ List.replicate n (dT x k) ++ List.replicate n (dO d), e.shown.length ≤ 70 := fun n e he => by
    rcases List.mem_append.mp he with he | he
    · rw [(List.mem_replicate.mp he).2]
      exact h1
    · rw [(List.mem_replicate.mp he).2]
      exact h2
  have w : ∀ n, n ≤ 8 → (dW n x k d).shown.length ≤ 2000 := fun n hn => by
    unfold dW
    refine list_le (b := 70) (n := 16) (each n) ?_ (by decide)
    rw [List.length_append, List.length_replicate, List.length_replicate]
    omega
  have r : (dR x k d).shown.length ≤ 2000 := by
    unfold dR
    refine list_le (b := 70) (n := 4) (fun e he => ?_) (Nat.le_refl _) (by decide)
    simp only [List.mem_cons, List.not_mem_nil, or_false] at he
    rcases he with rfl | rfl | rfl | rfl
    · exact h1
    · exact h2
    · exact h1
    · exact h2
  have w3 := w 3 (by decide)
  have w8 := w 8 (by decide)
  generalize dW 3 x k d = e3 at *
  generalize dW 8 x k d = e8 at *
  generalize dR x k d = e at *
  exact ⟨shows_of p1 w3, shows_of p2 w8, shows_of p3 r⟩
end My

namespace My
open PySem PySem.Spec PyProof.Rows L2
local macro_rules | `(tactic| walk_at "side") => `(tactic| first | (dsimp only; omega) | exact ⟨by omega, by omega⟩ | exact Or.inl ⟨by omega, by omega⟩ | exact Or.inr ⟨by omega, by omega⟩ | decide)
local macro_rules | `(tactic| walk_at "sq") => `(tactic| first | assumption | exact SqL.of (by assumption) | exact SqT.of (by assumption) | (refine L2.Same.seq (by assumption) ?_; walk_at "sq") | (refine L2.Same.seqT (by assumption) ?_; walk_at "sq") | exact Or.inl (by walk_at "sq") | exact Or.inr (by walk_at "sq"))
local macro_rules | `(tactic| walk_at "1") => `(tactic| first
  | refine ⟨_, rfl, iteT ?_⟩
  | refine ⟨_, rfl, iteF ?_⟩
  | refine ⟨_, rfl, ?_⟩
  | refine ⟨_, _, rfl, rfl, (by walk_at "side"), ?_⟩
  | refine ⟨_, _, rfl, rfl, ?_⟩
  | refine ⟨_, _, _, _, true, rfl, .ty _, .base (.int _), kit_ty (a := "int") (by decide +kernel), ?_⟩
  | refine ⟨_, _, _, _, false, rfl, .ty _, .base (.int _), kit_ty (a := "int") (by decide +kernel), ?_⟩
  | refine ⟨_, _, rfl, (by walk_at "sq"), ?_⟩
  | refine ⟨_, _, _, _, rfl, rfl, (by walk_at "sq"), (by first | rfl | assumption), ?_⟩
  | refine Or.inl ⟨_, _, _, _, rfl, rfl, (by walk_at "sq"), (by first | rfl | assumption), ?_⟩
  | refine Or.inr (Or.inl ⟨_, _, _, _, rfl, rfl, (by walk_at "sq"), (by first | rfl | assumption), ?_⟩)
  | refine ⟨_, _, rfl, Or.inl ⟨(by walk_at "sq"), ?_⟩⟩
  | refine ⟨rfl, ?_⟩
  | refine iteT ?_
  | refine iteF ?_
  | refine ⟨_, _, _, _, _, rfl, (by assumption), (by assumption), (by assumption), (by assumption), ?_⟩
  | refine Or.inl ⟨_, rfl, ?_⟩
  | refine Or.inr ⟨_, rfl, ?_⟩
  | refine ⟨_, _, rfl, (by walk_at "side"), ?_⟩
  | refine ⟨_, _, rfl, ?_⟩)
local macro_rules | `(tactic| walk_at "fld") => `(tactic| skip)
local macro_rules | `(tactic| walk_at "s") => `(tactic| repeat walk_at "1")
local macro_rules | `(tactic| walk_at "size") => `(tactic| first | exact Nat.le_of_ble_eq_true rfl | (simp only [List.length_map, List.length_append, List.length_cons, List.length_nil]; omega))
local macro_rules | `(tactic| walk_at "new") => `(tactic| (first | refine ⟨(by walk_at "size"), fun p hp => ?_⟩ | refine fun p hp => ?_); (generalize hq : upd _ p _ = H1); (obtain ⟨s, e⟩ := new_facts hp hq); clear hq)

open MyG MyX
theorem pss_pre {X : Cx} {ss : List Stmt} {t u : TS} (h : PSs X ss t) (i : ∀ D σ H, u D σ H → t D σ H) : PSs X ss u := ⟨fun pins s σ H D I q => h.run pins s σ H D I (i D σ H q)⟩
theorem ps_pre {X : Cx} {st : Stmt} {t u : TS} (h : PS X st t) (i : ∀ D σ H, u D σ H → t D σ H) : PS X st u := ⟨fun pins s σ H D I q => h.run pins s σ H D I (i D σ H q)⟩
def forBody (s : Stmt) : List Stmt := match s with
  | .For _ _ b _ _ => b
  | _ => []
def nth (l : List Stmt) (i : Nat) : Stmt := l.getD i (.Pass ⟨0, 0, 0, 0⟩)
abbrev s_law : Stmt := topS 25
theorem sc_law : FnScope ["script", "k", "box", "thing", "other", "words", "spots", "named", "rings", "lost", "n", "one"] ["script"] (defScope s_law) := ⟨rfl, rfl, rfl, by decide +kernel, rfl, by decide +kernel, by decide +kernel⟩
abbrev kBody : List Stmt := forBody (nth (defBody s_law) 0)
theorem Same.free {H H' : Hp} {p : Addr} (s : Same H H') (n : H' p = none) : H p = none := by
  cases q : H p with
  | none => rfl
  | some o =>
    rw [s _ _ q] at n
    cases n
theorem dp_same {K : PySem.W.Frag} {H H' : Hp} {v : V} {d : PyData} (s : Same H H') (h : Dp K H v d) : Dp K H' v d :=
  Dp.rec (motive_1 := fun v d _ => Dp K H' v d) (motive_2 := fun vs ds _ => DpAll K H' vs ds) .non (fun b => .bl b) (fun i => .int i) (fun x => .str x) (fun q _ ih => .lst (s.seq q) ih) (fun q _ ih => .tup (s.seqT q) ih) .nil (fun _ _ a b => .cons a b) h
/-- errors in a list: their classes' numbers and what their field f holds -/
inductive EAs (H : Hp) (c : Nat → Addr) (f : Str) : List V → List (Nat × V) → Prop where
  | nil : EAs H c f [] []
  | cons {a : Addr} {i : Nat} {y : V} {xs : List V} {ys : List (Nat × V)} (h : ErrAt H a (c i) f y) (t : EAs H c f xs ys) : EAs H c f (.ref a :: xs) ((i, y) :: ys)
section
variable {H H' : Hp} {c : Nat → Addr} {f : Str} {xs xs2 : List V} {ys ys2 : List (Nat × V)}
theorem EAs.same (s : Same H H') (h : EAs H c f xs ys) : EAs H' c f xs ys := by
  induction h with
  | nil => exact .nil
  | cons h _ ih => exact .cons (s.err h) ih
theorem EAs.app (h : EAs H c f xs ys) (h2 : EAs H c f xs2 ys2) : EAs H c f (xs ++ xs2) (ys ++ ys2) := by
  induction h with
  | nil => exact h2
  | cons h _ ih => exact .cons h ih
theorem EAs.len (h : EAs H c f xs ys) : xs.length = ys.length := by
  induction h with
  | nil => rfl
  | cons h _ ih => rw [List.length_cons, List.length_cons, ih]
theorem EAs.get (h : EAs H c f xs ys) : ∀ {j : Nat} {x : V}, xs[j]? = some x → ∃ a i y, x = .ref a ∧ ys[j]? = some (i, y) ∧ ErrAt H a (c i) f y := by
  induction h with
  | nil =>
    intro j x e
    cases j <;> cases e
  | cons h _ ih =>
    intro j x e
    cases j with
    | zero =>
      cases e
      exact ⟨_, _, _, rfl, rfl, h⟩
    | succ j => exact ih e
theorem err_put {H : Hp} {a C p : Addr} {g : Str} {v : V} {l l2 : List V} (e : H p = some (.lst l)) (h : ErrAt H a C g v) : ErrAt (upd H p (.lst l2)) a C g v := by
  obtain ⟨d, h1, h2⟩ := h
  refine ⟨d, ?_, ?_⟩
  · rw [upd_ne (fun q => by rw [q, e] at h1; cases h1)]
    exact h1
  · rw [upd_ne (fun q => by rw [q, e] at h2; cases h2)]
    exact h2
theorem EAs.put {p : Addr} {l l2 : List V} (e : H p = some (.lst l)) (h : EAs H c f xs ys) : EAs (upd H p (.lst l2)) c f xs ys := by
  induction h with
  | nil => exact .nil
  | cons h _ ih => exact .cons (err_put e h) ih
end
section
variable {H1 : Hp} {L p : Addr} {K : PySem.W.Frag} {c : Nat → Addr} {f : Str} {xs : List V} {ys : List (Nat × V)} {σ : L2.St} {Qd : Hp → Prop}
/-- [one.f for one in errors] -/
theorem lc_errs (h11 : 11 < σ.length) (e : SqL K H1 p xs) (es : EAs H1 c f xs ys) (ex : ∀ q ∈ ys, ExcC K (c q.1) ∧ PySem.W.findIn K (.ref (c q.1)) f = some none) (sm : ys.length ≤ 1000) (nL : H1 L = none) (k : ∀ H', Same H1 H' → H' L = some (.lst (ys.map (·.2))) → Qd H') :
    ∃ W : Nat → Nat → Hp → Prop, (∃ m, W 0 m (upd H1 L (.lst []))) ∧ ∀ i m H, W i m H →
      ((Itl K p).stop i H ∧ Qd H) ∨ ((Itl K p).go i H ∧ ∃ Nx : Hp → Prop, (∀ H', Nx H' → ∃ m', m' < m ∧ W (i + 1) m' H') ∧ ∀ x H', (Itl K p).yld i H x H' → gName 11 x (wipe σ [11]) H' fun σ2 H2 => wipe σ2 [11] = wipe σ [11] ∧ tYes σ2 H2 fun b H3 =>
        if b = true then tErrF K f (tVar 11) σ2 H3 fun y H4 => ∃ acc, H4 L = some (.lst acc) ∧ acc.length < sizeLine ∧ Nx (upd H4 L (.lst (acc ++ [y]))) else Nx H3) := by
  have ln := es.len
  refine lc_seq (seqIt_l e) (fun i H => Same H1 H ∧ H L = some (.lst ((ys.take i).map (·.2)))) ⟨same_upd nL, upd_same⟩ (fun i H q => q.1) ?_ ?_
  · rintro i x H ex1 ⟨s1, e1⟩
    obtain ⟨a, j, y, rfl, ey, h⟩ := es.get ex1
    obtain ⟨x1, x2⟩ := ex _ (List.mem_of_getElem? ey)
    have hi : i < ys.length := (List.getElem?_eq_some_iff.mp ey).1
    have w1 : wipe ((wipe σ [11]).set 11 (some (V.ref a))) [11] = wipe σ [11] := by
      show (((σ.set 11 none).set 11 (some (V.ref a))).set 11 none) = σ.set 11 none
      rw [List.set_set, List.set_set]
    have v1 : ((wipe σ [11]).set 11 (some (V.ref a)))[11]? = some (some (V.ref a)) := by
      show ((σ.set 11 none).set 11 (some (V.ref a)))[11]? = _
      rw [List.getElem?_set_self (by rw [List.length_set]; exact h11)]
    refine ⟨w1, _, v1, a, c j, y, rfl, s1.err h, x1, x2, _, e1, ?_, s1.upd1 nL, ?_⟩
    · rw [List.length_map, List.length_take]
      exact small1000 (by omega)
    · rw [upd_same, List.take_add_one, ey, List.map_append]
      rfl
  · rintro H ⟨s1, e1⟩
    rw [ln, List.take_length] at e1
    exact k H s1 e1
end
/-- a list of new errors of the numbers is, their field holding what slot src holds -/
def tMadeL (slot src : Nat) (f : Str) (is : List Nat) (c : Nat → Addr) : TS := fun D σ H => ∃ t, σ[src]? = some (some (.ref t)) ∧ ∀ H' p xs, Same H H' → H p = none → H' p = some (.lst xs) → EAs H' c f xs (is.map fun i => (i, .ref t)) → D.nx (σ.set slot (some (.ref p))) H'
def tMoreL (slot src : Nat) (f : Str) (is : List Nat) (c : Nat → Addr) : TS := fun D σ H => ∃ t q ws, σ[src]? = some (some (.ref t)) ∧ σ[slot]? = some (some (.ref q)) ∧ H q = some (.lst ws) ∧ ws.length ≤ 900 ∧ ∀ H' p xs, Same H H' → H p = none → H' p = some (.lst (ws ++ xs)) → EAs H' c f xs (is.map fun i => (i, .ref t)) → D.nx (σ.set slot (some (.ref p))) H'
/-- all error classes with one field -/
structure Makes (P : Program) (w : World) (K : PySem.W.Frag) (mg : Str → Option Value) (base : Heap) (c : Nat → Addr) : Prop where
  m0 : ErrMk P w K mg base "InvalidRow" "word" (c 0)
  m1 : ErrMk P w K mg base "InvalidModule" "word" (c 1)
  m2 : ErrMk P w K mg base "InvalidTally" "word" (c 2)
  m3 : ErrMk P w K mg base "InvalidHouse" "at" (c 3)
  m4 : ErrMk P w K mg base "InvalidText" "at" (c 4)
  m5 : ErrMk P w K mg base "InvalidArrivals" "at" (c 5)
  m6 : ErrMk P w K mg base "InvalidWishes" "at" (c 6)
  m7 : ErrMk P w K mg base "InvalidLog" "at" (c 7)
  m8 : ErrMk P w K mg base "InvalidMenu" "at" (c 8)
  m9 : ErrMk P w K mg base "InvalidGoals" "at" (c 9)
  m10 : ErrMk P w K mg base "Refused" "at" (c 10)
  m11 : ErrMk P w K mg base "NeverGoes" "ring" (c 11)
  m15 : ErrMk P w K mg base "NoPlace" "name" (c 15)
section
variable {P : Program} {w : World} {K : PySem.W.Frag} {mg : Str → Option Value} {base : Heap} {c : Nat → Addr} {fa : Addr} {cdv : Value} {A : Around} {outer : List Env} {s : Shared} {H : Hp} {E : XK}
set_option maxHeartbeats 4000000 in
theorem blk_2 (M : Makes P w K mg base c) (hr : Room 6 (A.deeper (envOfC "law" (defScope s_law) s.heap.objs.size fa cdv))) : PS (cxOf CX0 P w K mg base ["script", "k", "box", "thing", "other", "words", "spots", "named", "rings", "lost", "n", "one"] "law" (defScope s_law) fa cdv A outer s H E).nox (nth kBody 2) (tMadeL 5 3 "word" [0, 1, 2] c) := by
  refine ps_pre (ps_set (i := 5) sc_law.nd rfl (Or.inl rfl) (pe_lst (pa_cons (pe_err M.m0 (hr.mono (by decide)) (pa_cons (pv 3) pa_nil)) (pa_cons (pe_err M.m1 (hr.mono (by decide)) (pa_cons (pv 3) pa_nil)) (pa_cons (pe_err M.m2 (hr.mono (by decide)) (pa_cons (pv 3) pa_nil)) pa_nil))))) ?_
  rintro D σ H ⟨t, e, k⟩
  refine ⟨_, e, _, rfl, fun a0 H0 n0 s0 r0 => ?_⟩
  refine ⟨_, e, _, rfl, fun a1 H1 n1 s1 r1 => ?_⟩
  refine ⟨_, e, _, rfl, fun a2 H2 n2 s2 r2 => ?_⟩
  have s9 : Same H H2 := (Same.trans (Same.trans s0 s1) s2)
  have es : EAs H2 c "word" [.ref a0, .ref a1, .ref a2] ([0, 1, 2].map fun i => (i, V.ref t)) := (.cons (s2.err (s1.err r0)) (.cons (s2.err r1) (.cons r2 .nil)))
  refine ⟨Nat.le_of_ble_eq_true rfl, fun p np => ?_⟩
  exact k _ p _ (s9.upd1 (s9.free np)) (s9.free np) upd_same (es.same (same_upd np))
set_option maxHeartbeats 4000000 in
theorem blk_3 (M : Makes P w K mg base c) (hr : Room 6 (A.deeper (envOfC "law" (defScope s_law) s.heap.objs.size fa cdv))) : PS (cxOf CX0 P w K mg base ["script", "k", "box", "thing", "other", "words", "spots", "named", "rings", "lost", "n", "one"] "law" (defScope s_law) fa cdv A outer s H E).nox (nth kBody 3) (tMoreL 5 4 "word" [0, 1, 2] c) := by
  refine ps_pre (ps_set (i := 5) sc_law.nd rfl (Or.inl rfl) (pe_op op_cat (pv 5) (pe_lst (pa_cons (pe_errK M.m0 (hr.mono (by decide)) (pk_cons (pv 4) pk_nil)) (pa_cons (pe_errK M.m1 (hr.mono (by decide)) (pk_cons (pv 4) pk_nil)) (pa_cons (pe_errK M.m2 (hr.mono (by decide)) (pk_cons (pv 4) pk_nil)) pa_nil)))))) ?_
  rintro D σ H ⟨t, q, ws, e, eq, hq, lw, k⟩
  refine ⟨_, eq, ?_⟩
  refine ⟨_, e, _, rfl, fun a0 H0 n0 s0 r0 => ?_⟩
  refine ⟨_, e, _, rfl, fun a1 H1 n1 s1 r1 => ?_⟩
  refine ⟨_, e, _, rfl, fun a2 H2 n2 s2 r2 => ?_⟩
  have s9 : Same H H2 := (Same.trans (Same.trans s0 s1) s2)
  have es : EAs H2 c "word" [.ref a0, .ref a1, .ref a2] ([0, 1, 2].map fun i => (i, V.ref t)) := (.cons (s2.err (s1.err r0)) (.cons (s2.err r1) (.cons r2 .nil)))
  refine ⟨Nat.le_of_ble_eq_true rfl, fun p np => ?_⟩
  have h2 := same_upd (o := .lst [.ref a0, .ref a1, .ref a2]) np
  refine ⟨_, _, _, _, rfl, rfl, h2 _ _ (s9 _ _ hq), upd_same, Nat.le_of_lt (small1000 (by simp only [List.length_cons, List.length_nil]; omega)), fun p2 np2 => ?_⟩
  exact k _ p2 _ ((s9.trans h2).upd1 ((s9.trans h2).free np2)) ((s9.trans h2).free np2) upd_same ((es.same h2).same (same_upd np2))
set_option maxHeartbeats 4000000 in
theorem blk_4 (M : Makes P w K mg base c) (hr : Room 6 (A.deeper (envOfC "law" (defScope s_law) s.heap.objs.size fa cdv))) : PS (cxOf CX0 P w K mg base ["script", "k", "box", "thing", "other", "words", "spots", "named", "rings", "lost", "n", "one"] "law" (defScope s_law) fa cdv A outer s H E).nox (nth kBody 4) (tMadeL 6 3 "at" [3, 4, 5, 6] c) := by
  refine ps_pre (ps_set (i := 6) sc_law.nd rfl (Or.inl rfl) (pe_lst (pa_cons (pe_err M.m3 (hr.mono (by decide)) (pa_cons (pv 3) pa_nil)) (pa_cons (pe_err M.m4 (hr.mono (by decide)) (pa_cons (pv 3) pa_nil)) (pa_cons (pe_err M.m5 (hr.mono (by decide)) (pa_cons (pv 3) pa_nil)) (pa_cons (pe_err M.m6 (hr.mono (by decide)) (pa_cons (pv 3) pa_nil)) pa_nil)))))) ?_
  rintro D σ H ⟨t, e, k⟩
  refine ⟨_, e, _, rfl, fun a0 H0 n0 s0 r0 => ?_⟩
  refine ⟨_, e, _, rfl, fun a1 H1 n1 s1 r1 => ?_⟩
  refine ⟨_, e, _, rfl, fun a2 H2 n2 s2 r2 => ?_⟩
  refine ⟨_, e, _, rfl, fun a3 H3 n3 s3 r3 => ?_⟩
  have s9 : Same H H3 := (Same.trans (Same.trans (Same.trans s0 s1) s2) s3)
  have es : EAs H3 c "at" [.ref a0, .ref a1, .ref a2, .ref a3] ([3, 4, 5, 6].map fun i => (i, V.ref t)) := (.cons (s3.err (s2.err (s1.err r0))) (.cons (s3.err (s2.err r1)) (.cons (s3.err r2) (.cons r3 .nil))))
  refine ⟨Nat.le_of_ble_eq_true rfl, fun p np => ?_⟩
  exact k _ p _ (s9.upd1 (s9.free np)) (s9.free np) upd_same (es.same (same_upd np))
set_option maxHeartbeats 4000000 in
theorem blk_5 (M : Makes P w K mg base c) (hr : Room 6 (A.deeper (envOfC "law" (defScope s_law) s.heap.objs.size fa cdv))) : PS (cxOf CX0 P w K mg base ["script", "k", "box", "thing", "other", "words", "spots", "named", "rings", "lost", "n", "one"] "law" (defScope s_law) fa cdv A outer s H E).nox (nth kBody 5) (tMoreL 6 3 "at" [7, 8, 9, 10] c) := by
  refine ps_pre (ps_set (i := 6) sc_law.nd rfl (Or.inl rfl) (pe_op op_cat (pv 6) (pe_lst (pa_cons (pe_err M.m7 (hr.mono (by decide)) (pa_cons (pv 3) pa_nil)) (pa_cons (pe_err M.m8 (hr.mono (by decide)) (pa_cons (pv 3) pa_nil)) (pa_cons (pe_err M.m9 (hr.mono (by decide)) (pa_cons (pv 3) pa_nil)) (pa_cons (pe_err M.m10 (hr.mono (by decide)) (pa_cons (pv 3) pa_nil)) pa_nil))))))) ?_
  rintro D σ H ⟨t, q, ws, e, eq, hq, lw, k⟩
  refine ⟨_, eq, ?_⟩
  refine ⟨_, e, _, rfl, fun a0 H0 n0 s0 r0 => ?_⟩
  refine ⟨_, e, _, rfl, fun a1 H1 n1 s1 r1 => ?_⟩
  refine ⟨_, e, _, rfl, fun a2 H2 n2 s2 r2 => ?_⟩
  refine ⟨_, e, _, rfl, fun a3 H3 n3 s3 r3 => ?_⟩
  have s9 : Same H H3 := (Same.trans (Same.trans (Same.trans s0 s1) s2) s3)
  have es : EAs H3 c "at" [.ref a0, .ref a1, .ref a2, .ref a3] ([7, 8, 9, 10].map fun i => (i, V.ref t)) := (.cons (s3.err (s2.err (s1.err r0))) (.cons (s3.err (s2.err r1)) (.cons (s3.err r2) (.cons r3 .nil))))
  refine ⟨Nat.le_of_ble_eq_true rfl, fun p np => ?_⟩
  have h2 := same_upd (o := .lst [.ref a0, .ref a1, .ref a2, .ref a3]) np
  refine ⟨_, _, _, _, rfl, rfl, h2 _ _ (s9 _ _ hq), upd_same, Nat.le_of_lt (small1000 (by simp only [List.length_cons, List.length_nil]; omega)), fun p2 np2 => ?_⟩
  exact k _ p2 _ ((s9.trans h2).upd1 ((s9.trans h2).free np2)) ((s9.trans h2).free np2) upd_same ((es.same h2).same (same_upd np2))
set_option maxHeartbeats 4000000 in
theorem blk_6 (M : Makes P w K mg base c) (hr : Room 6 (A.deeper (envOfC "law" (defScope s_law) s.heap.objs.size fa cdv))) : PS (cxOf CX0 P w K mg base ["script", "k", "box", "thing", "other", "words", "spots", "named", "rings", "lost", "n", "one"] "law" (defScope s_law) fa cdv A outer s H E).nox (nth kBody 6) (tMadeL 7 4 "at" [3, 4, 5, 6] c) := by
  refine ps_pre (ps_set (i := 7) sc_law.nd rfl (Or.inl rfl) (pe_lst (pa_cons (pe_errK M.m3 (hr.mono (by decide)) (pk_cons (pv 4) pk_nil)) (pa_cons (pe_errK M.m4 (hr.mono (by decide)) (pk_cons (pv 4) pk_nil)) (pa_cons (pe_errK M.m5 (hr.mono (by decide)) (pk_cons (pv 4) pk_nil)) (pa_cons (pe_errK M.m6 (hr.mono (by decide)) (pk_cons (pv 4) pk_nil)) pa_nil)))))) ?_
  rintro D σ H ⟨t, e, k⟩
  refine ⟨_, e, _, rfl, fun a0 H0 n0 s0 r0 => ?_⟩
  refine ⟨_, e, _, rfl, fun a1 H1 n1 s1 r1 => ?_⟩
  refine ⟨_, e, _, rfl, fun a2 H2 n2 s2 r2 => ?_⟩
  refine ⟨_, e, _, rfl, fun a3 H3 n3 s3 r3 => ?_⟩
  have s9 : Same H H3 := (Same.trans (Same.trans (Same.trans s0 s1) s2) s3)
  have es : EAs H3 c "at" [.ref a0, .ref a1, .ref a2, .ref a3] ([3, 4, 5, 6].map fun i => (i, V.ref t)) := (.cons (s3.err (s2.err (s1.err r0))) (.cons (s3.err (s2.err r1)) (.cons (s3.err r2) (.cons r3 .nil))))
  refine ⟨Nat.le_of_ble_eq_true rfl, fun p np => ?_⟩
  exact k _ p _ (s9.upd1 (s9.free np)) (s9.free np) upd_same (es.same (same_upd np))
set_option maxHeartbeats 4000000 in
theorem blk_7 (M : Makes P w K mg base c) (hr : Room 6 (A.deeper (envOfC "law" (defScope s_law) s.heap.objs.size fa cdv))) : PS (cxOf CX0 P w K mg base ["script", "k", "box", "thing", "other", "words", "spots", "named", "rings", "lost", "n", "one"] "law" (defScope s_law) fa cdv A outer s H E).nox (nth kBody 7) (tMoreL 7 4 "at" [7, 8, 9, 10] c) := by
  refine ps_pre (ps_set (i := 7) sc_law.nd rfl (Or.inl rfl) (pe_op op_cat (pv 7) (pe_lst (pa_cons (pe_errK M.m7 (hr.mono (by decide)) (pk_cons (pv 4) pk_nil)) (pa_cons (pe_errK M.m8 (hr.mono (by decide)) (pk_cons (pv 4) pk_nil)) (pa_cons (pe_errK M.m9 (hr.mono (by decide)) (pk_cons (pv 4) pk_nil)) (pa_cons (pe_errK M.m10 (hr.mono (by decide)) (pk_cons (pv 4) pk_nil)) pa_nil))))))) ?_
  rintro D σ H ⟨t, q, ws, e, eq, hq, lw, k⟩
  refine ⟨_, eq, ?_⟩
  refine ⟨_, e, _, rfl, fun a0 H0 n0 s0 r0 => ?_⟩
  refine ⟨_, e, _, rfl, fun a1 H1 n1 s1 r1 => ?_⟩
  refine ⟨_, e, _, rfl, fun a2 H2 n2 s2 r2 => ?_⟩
  refine ⟨_, e, _, rfl, fun a3 H3 n3 s3 r3 => ?_⟩
  have s9 : Same H H3 := (Same.trans (Same.trans (Same.trans s0 s1) s2) s3)
  have es : EAs H3 c "at" [.ref a0, .ref a1, .ref a2, .ref a3] ([7, 8, 9, 10].map fun i => (i, V.ref t)) := (.cons (s3.err (s2.err (s1.err r0))) (.cons (s3.err (s2.err r1)) (.cons (s3.err r2) (.cons r3 .nil))))
  refine ⟨Nat.le_of_ble_eq_true rfl, fun p np => ?_⟩
  have h2 := same_upd (o := .lst [.ref a0, .ref a1, .ref a2, .ref a3]) np
  refine ⟨_, _, _, _, rfl, rfl, h2 _ _ (s9 _ _ hq), upd_same, Nat.le_of_lt (small1000 (by simp only [List.length_cons, List.length_nil]; omega)), fun p2 np2 => ?_⟩
  exact k _ p2 _ ((s9.trans h2).upd1 ((s9.trans h2).free np2)) ((s9.trans h2).free np2) upd_same ((es.same h2).same (same_upd np2))
end
end My

namespace My
open PySem PySem.Spec PyProof.Rows L2
local macro_rules | `(tactic| walk_at "side") => `(tactic| first | (dsimp only; omega) | exact ⟨by omega, by omega⟩ | exact Or.inl ⟨by omega, by omega⟩ | exact Or.inr ⟨by omega, by omega⟩ | decide)
local macro_rules | `(tactic| walk_at "sq") => `(tactic| first | assumption | exact SqL.of (by assumption) | exact SqT.of (by assumption) | (refine L2.Same.seq (by assumption) ?_; walk_at "sq") | (refine L2.Same.seqT (by assumption) ?_; walk_at "sq") | exact Or.inl (by walk_at "sq") | exact Or.inr (by walk_at "sq"))
local macro_rules | `(tactic| walk_at "1") => `(tactic| first
  | refine ⟨_, rfl, iteT ?_⟩
  | refine ⟨_, rfl, iteF ?_⟩
  | refine ⟨_, rfl, ?_⟩
  | refine ⟨_, _, rfl, rfl, (by walk_at "side"), ?_⟩
  | refine ⟨_, _, rfl, rfl, ?_⟩
  | refine ⟨_, _, _, _, true, rfl, .ty _, .base (.int _), kit_ty (a := "int") (by decide +kernel), ?_⟩
  | refine ⟨_, _, _, _, false, rfl, .ty _, .base (.int _), kit_ty (a := "int") (by decide +kernel), ?_⟩
  | refine ⟨_, _, rfl, (by walk_at "sq"), ?_⟩
  | refine ⟨_, _, _, _, rfl, rfl, (by walk_at "sq"), (by first | rfl | assumption), ?_⟩
  | refine Or.inl ⟨_, _, _, _, rfl, rfl, (by walk_at "sq"), (by first | rfl | assumption), ?_⟩
  | refine Or.inr (Or.inl ⟨_, _, _, _, rfl, rfl, (by walk_at "sq"), (by first | rfl | assumption), ?_⟩)
  | refine ⟨_, _, rfl, Or.inl ⟨(by walk_at "sq"), ?_⟩⟩
  | refine ⟨rfl, ?_⟩
  | refine iteT ?_
  | refine iteF ?_
  | refine ⟨_, _, _, _, _, rfl, (by assumption), (by assumption), (by assumption), (by assumption), ?_⟩
  | refine Or.inl ⟨_, rfl, ?_⟩
  | refine Or.inr ⟨_, rfl, ?_⟩
  | refine ⟨_, _, rfl, (by walk_at "side"), ?_⟩
  | refine ⟨_, _, rfl, ?_⟩)
local macro_rules | `(tactic| walk_at "fld") => `(tactic| skip)
local macro_rules | `(tactic| walk_at "s") => `(tactic| repeat walk_at "1")
local macro_rules | `(tactic| walk_at "size") => `(tactic| first | exact Nat.le_of_ble_eq_true rfl | (simp only [List.length_map, List.length_append, List.length_cons, List.length_nil]; omega))
local macro_rules | `(tactic| walk_at "new") => `(tactic| (first | refine ⟨(by walk_at "size"), fun p hp => ?_⟩ | refine fun p hp => ?_); (generalize hq : upd _ p _ = H1); (obtain ⟨s, e⟩ := new_facts hp hq); clear hq)

open MyG MyX
section
variable {P : Program} {w : World} {K : PySem.W.Frag} {mg : Str → Option Value} {base : Heap} {c : Nat → Addr} {fa : Addr} {cdv : Value} {A : Around} {outer : List Env} {s : Shared} {H : Hp} {E : XK}
def tThing (K : PySem.W.Frag) : TS := fun D σ H => ∃ b, σ[2]? = some (some (.ref b)) ∧ BoxAt H b ∧ ∀ H' Hv th ot v x d, Bx b H H' → x < 7 → d < 9 → Dp K Hv v (thg x) → Hv th = none → Hv ot = none → Same Hv H' → H' th = some (.lst [v]) → H' ot = some (.lst [.str "x", .int ((d : Nat) : Int)]) → th ≠ ot → H th = none → H ot = none →
  D.nx ((σ.set 3 (some (.ref th))).set 4 (some (.ref ot))) H'
theorem same_del {b : Addr} {H H' : Hp} (s : Bx b H H') : Same (delH H b) H' := fun a o e => by
  by_cases q : a = b
  · rw [q, delH_same] at e
    cases e
  · rw [delH_ne q] at e
    exact s a o q e
theorem del_at {b a : Addr} {H : Hp} {o : HO} (n : a ≠ b) (e : H a = some o) : delH H b a = some o := by
  rw [delH_ne n]
  exact e
theorem Bx.free {b p : Addr} {H H' : Hp} (s : Bx b H H') (n : p ≠ b) (h : H' p = none) : H p = none := by
  cases q : H p with
  | none => rfl
  | some o =>
    have := s _ _ n q
    rw [h] at this
    cases this
set_option maxHeartbeats 4000000 in
theorem blk_1 (o_law_take : Own P w K mg base "_law_take" 1 ["box", "many"] spTake) (o_law_pick : Own P w K mg base "_law_pick" 2 ["box", "some"] spPick) (hr : Room 6 (A.deeper (envOfC "law" (defScope s_law) s.heap.objs.size fa cdv))) : PS (cxOf CX0 P w K mg base ["script", "k", "box", "thing", "other", "words", "spots", "named", "rings", "lost", "n", "one"] "law" (defScope s_law) fa cdv A outer s H E).nox (nth kBody 1) (tThing K) := by
  refine ps_pre (ps_par (i := 3) (j := 4) (by rfl) sc_law.nd rfl rfl (by decide) rfl rfl (pa_cons (pe_lst (pa_cons (pe_own o_law_pick (hr.mono (by decide)) (pa_cons (pv 2) (pa_cons (pe_lst (pa_cons pe_non (pa_cons pe_bl (pa_cons pe_int (pa_cons pe_str (pa_cons (pe_tup pa_nil) (pa_cons (pe_lst (pa_cons pe_int pa_nil)) (pa_cons (pe_tup (pa_cons pe_int (pa_cons (pe_lst (pa_cons pe_int pa_nil)) pa_nil))) pa_nil)))))))) pa_nil))) pa_nil)) (pa_cons (pe_lst (pa_cons pe_str (pa_cons (pe_own o_law_take (hr.mono (by decide)) (pa_cons (pv 2) (pa_cons pe_int pa_nil))) pa_nil))) pa_nil)) (by rfl)) ?_
  rintro D σ H ⟨b, eb, hb, k⟩
  refine ⟨_, eb, ?_⟩
  walk_at "new"
  rename_i p0 n0 H0 s0 e0
  walk_at "new"
  rename_i p1 n1 H1 s1 e1
  walk_at "new"
  rename_i p2 n2 H2 s2 e2
  walk_at "new"
  rename_i p3 n3 H3 s3 e3
  walk_at "new"
  rename_i p4 n4 H4 s4 e4
  have S4 : Same H H4 := s0.trans (s1.trans (s2.trans (s3.trans s4)))
  have b4 := hb.same S4
  have nb4 : p4 ≠ b := (hb.same (s0.trans (s1.trans (s2.trans s3)))).ne n4
  refine ⟨b, p4, _, rfl, b4, nb4, e4, (Nat.le_of_ble_eq_true rfl), (Nat.le_of_ble_eq_true rfl), fun H5 v hv B5 b5 => ?_⟩
  have dp : ∃ x, x < 7 ∧ Dp K (delH H5 b) v (thg x) := by
    have nb0 : p0 ≠ b := hb.ne n0
    have nb1 : p1 ≠ b := (hb.same s0).ne n1
    have nb2 : p2 ≠ b := (hb.same (s0.trans s1)).ne n2
    have nb3 : p3 ≠ b := (hb.same (s0.trans (s1.trans s2))).ne n3
    have e0' := del_at nb0 (B5 _ _ nb0 (s4 _ _ (s3 _ _ (s2 _ _ (s1 _ _ e0)))))
    have e1' := del_at nb1 (B5 _ _ nb1 (s4 _ _ (s3 _ _ (s2 _ _ e1))))
    have e2' := del_at nb2 (B5 _ _ nb2 (s4 _ _ (s3 _ _ e2)))
    have e3' := del_at nb3 (B5 _ _ nb3 (s4 _ _ e3))
    simp only [List.mem_cons, List.not_mem_nil, or_false] at hv
    rcases hv with rfl | rfl | rfl | rfl | rfl | rfl | rfl
    · exact ⟨0, by decide, .non⟩
    · exact ⟨1, by decide, .bl _⟩
    · exact ⟨2, by decide, .int _⟩
    · exact ⟨3, by decide, .str _⟩
    · exact ⟨4, by decide, .tup (SqT.of e0') .nil⟩
    · exact ⟨5, by decide, .lst (SqL.of e1') (.cons (.int _) .nil)⟩
    · exact ⟨6, by decide, .tup (SqT.of e3') (.cons (.int _) (.cons (.lst (SqL.of e2') (.cons (.int _) .nil)) .nil))⟩
  obtain ⟨x, hx, dp⟩ := dp
  clear hv
  refine ⟨Nat.le_of_ble_eq_true rfl, fun th nth => ?_⟩
  generalize hq : upd H5 th _ = H6
  obtain ⟨s6, e6⟩ := new_facts nth hq
  clear hq
  have b6 := b5.same s6
  refine ⟨_, eb, b, 9, rfl, by decide, by decide, b6, fun H7 d hd B7 b7 => ?_⟩
  refine ⟨Nat.le_of_ble_eq_true rfl, fun ot nto => ?_⟩
  have nbt : th ≠ b := b5.ne nth
  have nbo : ot ≠ b := b7.ne nto
  have e7 := B7 _ _ nbt e6
  refine ⟨_, _, rfl, k _ (delH H5 b) th ot v x d ?_ hx hd dp ?_ ?_ ?_ ?_ upd_same ?_ ?_ ?_⟩
  · exact (Bx.of S4).trans (B5.trans ((Bx.of s6).trans (B7.trans (Bx.of (same_upd nto)))))
  · rw [delH_ne nbt]
    exact nth
  · rw [delH_ne nbo]
    exact s6.free (B7.free nbo nto)
  · exact same_del ((Bx.of s6).trans (B7.trans (Bx.of (same_upd nto))))
  · rw [upd_ne (ne_of_none e7 nto)]
    exact e7
  · exact ne_of_none e7 nto
  · exact S4.free (B5.free nbt nth)
  · exact S4.free (B5.free nbo (s6.free (B7.free nbo nto)))
def tRings (c : Nat → Addr) : TS := fun D σ H => ∃ th ot, σ[3]? = some (some (.ref th)) ∧ σ[4]? = some (some (.ref ot)) ∧ ∀ H' p q xs zs, Same H H' → H p = none → H q = none → H' p = some (.lst xs) → H' q = some (.lst zs) →
  EAs H' c "ring" xs [(11, .ref th), (11, .ref ot)] → EAs H' c "name" zs [(15, .ref th), (15, .ref ot)] → D.nx ((σ.set 8 (some (.ref p))).set 9 (some (.ref q))) H'
set_option maxHeartbeats 4000000 in
theorem blk_8 (M : Makes P w K mg base c) (hr : Room 6 (A.deeper (envOfC "law" (defScope s_law) s.heap.objs.size fa cdv))) : PS (cxOf CX0 P w K mg base ["script", "k", "box", "thing", "other", "words", "spots", "named", "rings", "lost", "n", "one"] "law" (defScope s_law) fa cdv A outer s H E).nox (nth kBody 8) (tRings c) := by
  refine ps_pre (ps_par (i := 8) (j := 9) (by rfl) sc_law.nd rfl rfl (by decide) rfl rfl (pa_cons (pe_lst (pa_cons (pe_err M.m11 (hr.mono (by decide)) (pa_cons (pv 3) pa_nil)) (pa_cons (pe_errK M.m11 (hr.mono (by decide)) (pk_cons (pv 4) pk_nil)) pa_nil))) (pa_cons (pe_lst (pa_cons (pe_err M.m15 (hr.mono (by decide)) (pa_cons (pv 3) pa_nil)) (pa_cons (pe_errK M.m15 (hr.mono (by decide)) (pk_cons (pv 4) pk_nil)) pa_nil))) pa_nil)) (by rfl)) ?_
  rintro D σ H ⟨th, ot, e, eo, k⟩
  refine ⟨_, e, _, rfl, fun a0 H0 n0 s0 r0 => ?_⟩
  refine ⟨_, eo, _, rfl, fun a1 H1 n1 s1 r1 => ?_⟩
  refine ⟨Nat.le_of_ble_eq_true rfl, fun p np => ?_⟩
  generalize hq : upd H1 p _ = H2
  obtain ⟨s2, e2⟩ := new_facts np hq
  clear hq
  refine ⟨_, e, _, rfl, fun a3 H3 n3 s3 r3 => ?_⟩
  refine ⟨_, eo, _, rfl, fun a4 H4 n4 s4 r4 => ?_⟩
  refine ⟨Nat.le_of_ble_eq_true rfl, fun q nq => ?_⟩
  have h2 := same_upd (o := .lst [.ref a3, .ref a4]) nq
  have S3 := s3.trans (s4.trans h2)
  refine ⟨_, _, rfl, k _ p q _ _ (s0.trans (s1.trans (s2.trans S3))) (s0.free (s1.free np)) (s0.free (s1.free (s2.free (s3.free (s4.free nq))))) (S3 _ _ e2) upd_same (.cons ?_ (.cons ?_ .nil)) (.cons ?_ (.cons ?_ .nil))⟩
  · exact (s1.trans (s2.trans S3)).err r0
  · exact (s2.trans S3).err r1
  · exact (s4.trans h2).err r3
  · exact h2.err r4
def tApp (slot : Nat) (y : Option Nat) (yv : V) : TS := fun D σ H => ∃ (l : Addr) (v : V) (xs : List V), σ[slot]? = some (some (.ref l)) ∧ (∀ j, y = some j → σ[j]? = some (some v)) ∧ (y = none → v = yv) ∧ H l = some (.lst xs) ∧ xs.length ≤ 100 ∧ D.nx σ (upd H l (.lst (xs ++ [v])))
set_option maxHeartbeats 4000000 in
theorem blk_9 (hr : Room 6 (A.deeper (envOfC "law" (defScope s_law) s.heap.objs.size fa cdv))) : PS (cxOf CX0 P w K mg base ["script", "k", "box", "thing", "other", "words", "spots", "named", "rings", "lost", "n", "one"] "law" (defScope s_law) fa cdv A outer s H E).nox (nth kBody 9) (tApp 3 (some 1) .non) := by
  refine ps_pre (ps_expr (pe_bm PySem.F.plainAttrs_list PySem.F.slot_list_append PySem.F.type_list_append mt_append (pv 3) (pa_cons (pv 1) pa_nil))) ?_
  rintro D σ H ⟨l, v, xs, e, ey, _, hl, sm, k⟩
  exact ⟨_, e, Or.inl ⟨rfl, _, SqL.of hl⟩, _, ey 1 rfl, l, xs, v, rfl, rfl, hl, small1000 (by omega), k⟩
set_option maxHeartbeats 4000000 in
theorem blk_10 (hr : Room 6 (A.deeper (envOfC "law" (defScope s_law) s.heap.objs.size fa cdv))) : PS (cxOf CX0 P w K mg base ["script", "k", "box", "thing", "other", "words", "spots", "named", "rings", "lost", "n", "one"] "law" (defScope s_law) fa cdv A outer s H E).nox (nth kBody 10) (tApp 4 none (.str "y")) := by
  refine ps_pre (ps_expr (pe_bm PySem.F.plainAttrs_list PySem.F.slot_list_append PySem.F.type_list_append mt_append (pv 4) (pa_cons pe_str pa_nil))) ?_
  rintro D σ H ⟨l, v, xs, e, _, ey, hl, sm, k⟩
  obtain rfl := ey rfl
  exact ⟨_, e, Or.inl ⟨rfl, _, SqL.of hl⟩, l, xs, _, rfl, rfl, hl, small1000 (by omega), k⟩
end
end My

namespace My
open PySem PySem.Spec PyProof.Rows L2
local macro_rules | `(tactic| walk_at "side") => `(tactic| first | (dsimp only; omega) | exact ⟨by omega, by omega⟩ | exact Or.inl ⟨by omega, by omega⟩ | exact Or.inr ⟨by omega, by omega⟩ | decide)
local macro_rules | `(tactic| walk_at "sq") => `(tactic| first | assumption | exact SqL.of (by assumption) | exact SqT.of (by assumption) | (refine L2.Same.seq (by assumption) ?_; walk_at "sq") | (refine L2.Same.seqT (by assumption) ?_; walk_at "sq") | exact Or.inl (by walk_at "sq") | exact Or.inr (by walk_at "sq"))
local macro_rules | `(tactic| walk_at "1") => `(tactic| first
  | refine ⟨_, rfl, iteT ?_⟩
  | refine ⟨_, rfl, iteF ?_⟩
  | refine ⟨_, rfl, ?_⟩
  | refine ⟨_, _, rfl, rfl, (by walk_at "side"), ?_⟩
  | refine ⟨_, _, rfl, rfl, ?_⟩
  | refine ⟨_, _, _, _, true, rfl, .ty _, .base (.int _), kit_ty (a := "int") (by decide +kernel), ?_⟩
  | refine ⟨_, _, _, _, false, rfl, .ty _, .base (.int _), kit_ty (a := "int") (by decide +kernel), ?_⟩
  | refine ⟨_, _, rfl, (by walk_at "sq"), ?_⟩
  | refine ⟨_, _, _, _, rfl, rfl, (by walk_at "sq"), (by first | rfl | assumption), ?_⟩
  | refine Or.inl ⟨_, _, _, _, rfl, rfl, (by walk_at "sq"), (by first | rfl | assumption), ?_⟩
  | refine Or.inr (Or.inl ⟨_, _, _, _, rfl, rfl, (by walk_at "sq"), (by first | rfl | assumption), ?_⟩)
  | refine ⟨_, _, rfl, Or.inl ⟨(by walk_at "sq"), ?_⟩⟩
  | refine ⟨rfl, ?_⟩
  | refine iteT ?_
  | refine iteF ?_
  | refine ⟨_, _, _, _, _, rfl, (by assumption), (by assumption), (by assumption), (by assumption), ?_⟩
  | refine Or.inl ⟨_, rfl, ?_⟩
  | refine Or.inr ⟨_, rfl, ?_⟩
  | refine ⟨_, _, rfl, (by walk_at "side"), ?_⟩
  | refine ⟨_, _, rfl, ?_⟩)
local macro_rules | `(tactic| walk_at "fld") => `(tactic| skip)
local macro_rules | `(tactic| walk_at "s") => `(tactic| repeat walk_at "1")
local macro_rules | `(tactic| walk_at "size") => `(tactic| first | exact Nat.le_of_ble_eq_true rfl | (simp only [List.length_map, List.length_append, List.length_cons, List.length_nil]; omega))
local macro_rules | `(tactic| walk_at "new") => `(tactic| (first | refine ⟨(by walk_at "size"), fun p hp => ?_⟩ | refine fun p hp => ?_); (generalize hq : upd _ p _ = H1); (obtain ⟨s, e⟩ := new_facts hp hq); clear hq)

open MyG MyX
/-- the slots behind the making -/
structure Sl (σ : L2.St) (th ot pw ps pn pr pl : Addr) : Prop where
  len : 11 < σ.length
  th : σ[3]? = some (some (.ref th))
  ot : σ[4]? = some (some (.ref ot))
  w : σ[5]? = some (some (.ref pw))
  s : σ[6]? = some (some (.ref ps))
  n : σ[7]? = some (some (.ref pn))
  r : σ[8]? = some (some (.ref pr))
  l : σ[9]? = some (some (.ref pl))
/-- the errors that are kept, and what they keep -/
structure Kept (c : Nat → Addr) (H : Hp) (th ot pw ps pn pr pl : Addr) (xw xs xn xr xl : List V) : Prop where
  w : H pw = some (.lst xw)
  s : H ps = some (.lst xs)
  n : H pn = some (.lst xn)
  r : H pr = some (.lst xr)
  l : H pl = some (.lst xl)
  ew : EAs H c "word" xw [(0, .ref th), (1, .ref th), (2, .ref th), (0, .ref ot), (1, .ref ot), (2, .ref ot)]
  es : EAs H c "at" xs [(3, .ref th), (4, .ref th), (5, .ref th), (6, .ref th), (7, .ref th), (8, .ref th), (9, .ref th), (10, .ref th)]
  en : EAs H c "at" xn [(3, .ref ot), (4, .ref ot), (5, .ref ot), (6, .ref ot), (7, .ref ot), (8, .ref ot), (9, .ref ot), (10, .ref ot)]
  er : EAs H c "ring" xr [(11, .ref th), (11, .ref ot)]
  el : EAs H c "name" xl [(15, .ref th), (15, .ref ot)]
theorem Kept.same {c : Nat → Addr} {H H' : Hp} {th ot pw ps pn pr pl : Addr} {xw xs xn xr xl : List V} (q : Same H H') (F : Kept c H th ot pw ps pn pr pl xw xs xn xr xl) : Kept c H' th ot pw ps pn pr pl xw xs xn xr xl :=
  ⟨q _ _ F.w, q _ _ F.s, q _ _ F.n, q _ _ F.r, q _ _ F.l, F.ew.same q, F.es.same q, F.en.same q, F.er.same q, F.el.same q⟩
/-- .. and thing and other as data -/
structure Full (K : PySem.W.Frag) (c : Nat → Addr) (H : Hp) (th ot pw ps pn pr pl : Addr) (xw xs xn xr xl : List V) (x k d : Nat) : Prop where
  kp : Kept c H th ot pw ps pn pr pl xw xs xn xr xl
  dt : Dp K H (.ref th) (dT x k)
  dO : Dp K H (.ref ot) (dO d)
  hx : x < 7
  hk : k < 3
  hd : d < 9
theorem Full.same {K : PySem.W.Frag} {c : Nat → Addr} {H H' : Hp} {th ot pw ps pn pr pl : Addr} {xw xs xn xr xl : List V} {x k d : Nat} (q : Same H H') (F : Full K c H th ot pw ps pn pr pl xw xs xn xr xl x k d) : Full K c H' th ot pw ps pn pr pl xw xs xn xr xl x k d :=
  ⟨F.kp.same q, dp_same q F.dt, dp_same q F.dO, F.hx, F.hk, F.hd⟩
theorem dpAll_rep {K : PySem.W.Frag} {H : Hp} {u v : V} {du dv : PyData} (h : Dp K H u du) (g : Dp K H v dv) (m : Nat) : ∀ n, DpAll K H (List.replicate n u ++ List.replicate m v) (List.replicate n du ++ List.replicate m dv)
  | 0 => by
    induction m with
    | zero => exact .nil
    | succ m ih => exact .cons g ih
  | n + 1 => .cons h (dpAll_rep h g m n)
/-- the fields of the classes can be read -/
structure Fields (K : PySem.W.Frag) (c : Nat → Addr) : Prop where
  w : ∀ i, i < 3 → PySem.W.findIn K (.ref (c i)) "word" = some none
  s : ∀ i, 3 ≤ i → i < 11 → PySem.W.findIn K (.ref (c i)) "at" = some none
  r : PySem.W.findIn K (.ref (c 11)) "ring" = some none
  l : PySem.W.findIn K (.ref (c 15)) "name" = some none
def tKeep (K : PySem.W.Frag) (c : Nat → Addr) : TS := fun D σ H => ∃ th ot pw ps pn pr pl xw xs xn xr xl x k d, Sl σ th ot pw ps pn pr pl ∧ Full K c H th ot pw ps pn pr pl xw xs xn xr xl x k d ∧ ∀ H', Same H H' → D.nx σ H'
section
variable {P : Program} {w : World} {K : PySem.W.Frag} {mg : Str → Option Value} {base : Heap} {c : Nat → Addr} {W : Addr} {fa : Addr} {cdv : Value} {A : Around} {outer : List Env} {s : Shared} {H : Hp} {E : XK}
set_option maxHeartbeats 4000000 in
theorem blk_11 (T : Txt mg) (Z : Kinds K c W) (G : Fields K c) (hr : Room 6 (A.deeper (envOfC "law" (defScope s_law) s.heap.objs.size fa cdv))) (gd : (A.deeper (envOfC "law" (defScope s_law) s.heap.objs.size fa cdv)).guards = some []) : PS (cxOf CX0 P w K mg base ["script", "k", "box", "thing", "other", "words", "spots", "named", "rings", "lost", "n", "one"] "law" (defScope s_law) fa cdv A outer s H E).nox (nth kBody 11) (tKeep K c) := by
  refine ps_pre (ps_if (pt_cmpR op_ne (pe_callB (call_reprD gd hr.units) (by rfl) T.repr (by decide +kernel) (pa_cons (pe_lc (own := [("one", 11)]) (g := gName 11) (tt := tYes) (te := tErrF K "word" (tVar 11)) rfl sc_law.nd (pi_list (pv 5)) (blkOk_by (own := [("one", 11)]) (N := ["script", "k", "box", "thing", "other", "words", "spots", "named", "rings", "lost", "n", "one"]) (sc := defScope s_law) (by decide +kernel)) (fun _ _ _ _ _ => (pg_name (i := 11) sc_law.nd rfl (Or.inl rfl))) (fun _ _ _ _ _ => pts_nil) (fun _ _ _ _ _ => (pe_errf (pv 11)))) pa_nil)) (pe_callB (call_reprD gd hr.units) (by rfl) T.repr (by decide +kernel) (pa_cons (pe_op op_cat (pe_op op_rep (pe_lst (pa_cons (pv 3) pa_nil)) pe_int) (pe_op op_rep (pe_lst (pa_cons (pv 4) pa_nil)) pe_int)) pa_nil)) (nomark _))
        (pss_one (ps_ret pe_bl))
        pss_nil) ?_
  rintro D σ H ⟨th, ot, pw, ps, pn, pr, pl, xw, xs, xn, xr, xl, x, k, d, S, F, go⟩
  obtain ⟨sh3, sh8, shR⟩ := shows_all F.hx F.hk F.hd
  refine ⟨_, S.w, pw, rfl, ⟨_, SqL.of F.kp.w⟩, fun L nL => lc_errs S.len (SqL.of F.kp.w) F.kp.ew (fun q hq => by
      simp only [List.mem_cons, List.mem_append, List.not_mem_nil, or_false] at hq
      rcases hq with rfl | rfl | rfl | rfl | rfl | rfl <;> exact ⟨Z.X _ (Nat.le_of_ble_eq_true rfl), G.w _ (Nat.le_of_ble_eq_true rfl)⟩) (Nat.le_of_ble_eq_true rfl) nL fun H1 s1 e1 => ?_⟩
  have F1 := F.same s1
  refine ⟨L, dW 3 x k d, rfl, .lst (SqL.of e1) (dpAll_rep F1.dt F1.dO 3 3), sh3.sh, sh3.nd, sh3.de, sh3.le, ?_⟩
  refine ⟨_, S.th, Nat.le_of_ble_eq_true rfl, fun p1 n1 => ?_⟩
  generalize hq : upd H1 p1 _ = H2
  obtain ⟨s2, e2⟩ := new_facts n1 hq
  clear hq
  refine ⟨_, _, _, rfl, rfl, e2, by decide, by decide, Nat.le_of_ble_eq_true rfl, fun p2 n2 => ?_⟩
  generalize hq : upd H2 p2 _ = H3
  obtain ⟨s3, e3⟩ := new_facts n2 hq
  clear hq
  refine ⟨_, S.ot, Nat.le_of_ble_eq_true rfl, fun p3 n3 => ?_⟩
  generalize hq : upd H3 p3 _ = H4
  obtain ⟨s4, e4⟩ := new_facts n3 hq
  clear hq
  refine ⟨_, _, _, rfl, rfl, e4, by decide, by decide, Nat.le_of_ble_eq_true rfl, fun p4 n4 => ?_⟩
  generalize hq : upd H4 p4 _ = H5
  obtain ⟨s5, e5⟩ := new_facts n4 hq
  clear hq
  refine ⟨_, _, _, _, rfl, rfl, s5 _ _ (s4 _ _ e3), e5, Nat.le_of_ble_eq_true rfl, fun p5 n5 => ?_⟩
  generalize hq : upd H5 p5 _ = H6
  obtain ⟨s6, e6⟩ := new_facts n5 hq
  clear hq
  have t6 := s2.trans (s3.trans (s4.trans (s5.trans s6)))
  have F6 := F1.same t6
  refine ⟨p5, dW 3 x k d, rfl, .lst (SqL.of e6) (dpAll_rep F6.dt F6.dO 3 3), sh3.sh, sh3.nd, sh3.de, sh3.le, rfl, _, rfl, ?_⟩
  rw [decide_eq_true rfl]
  refine iteF ?_
  exact go _ (s1.trans t6)
set_option maxHeartbeats 4000000 in
theorem blk_12 (T : Txt mg) (Z : Kinds K c W) (G : Fields K c) (hr : Room 6 (A.deeper (envOfC "law" (defScope s_law) s.heap.objs.size fa cdv))) (gd : (A.deeper (envOfC "law" (defScope s_law) s.heap.objs.size fa cdv)).guards = some []) : PS (cxOf CX0 P w K mg base ["script", "k", "box", "thing", "other", "words", "spots", "named", "rings", "lost", "n", "one"] "law" (defScope s_law) fa cdv A outer s H E).nox (nth kBody 12) (tKeep K c) := by
  refine ps_pre (ps_if (pt_cmpR op_ne (pe_callB (call_reprD gd hr.units) (by rfl) T.repr (by decide +kernel) (pa_cons (pe_lc (own := [("one", 11)]) (g := gName 11) (tt := tYes) (te := tErrF K "at" (tVar 11)) rfl sc_law.nd (pi_list (pe_op op_cat (pv 6) (pv 7))) (blkOk_by (own := [("one", 11)]) (N := ["script", "k", "box", "thing", "other", "words", "spots", "named", "rings", "lost", "n", "one"]) (sc := defScope s_law) (by decide +kernel)) (fun _ _ _ _ _ => (pg_name (i := 11) sc_law.nd rfl (Or.inl rfl))) (fun _ _ _ _ _ => pts_nil) (fun _ _ _ _ _ => (pe_errf (pv 11)))) pa_nil)) (pe_callB (call_reprD gd hr.units) (by rfl) T.repr (by decide +kernel) (pa_cons (pe_op op_cat (pe_op op_rep (pe_lst (pa_cons (pv 3) pa_nil)) pe_int) (pe_op op_rep (pe_lst (pa_cons (pv 4) pa_nil)) pe_int)) pa_nil)) (nomark _))
        (pss_one (ps_ret pe_bl))
        pss_nil) ?_
  rintro D σ H ⟨th, ot, pw, ps, pn, pr, pl, xw, xs, xn, xr, xl, x, k, d, S, F, go⟩
  obtain ⟨sh3, sh8, shR⟩ := shows_all F.hx F.hk F.hd
  refine ⟨_, S.s, _, S.n, _, _, _, _, rfl, rfl, F.kp.s, F.kp.n, ?_, fun p0 n0 => ?_⟩
  · rw [F.kp.es.len, F.kp.en.len]
    exact Nat.le_of_ble_eq_true rfl
  generalize hq : upd H p0 _ = H0
  obtain ⟨s0, e0⟩ := new_facts n0 hq
  clear hq
  have F0 := F.same s0
  refine ⟨p0, rfl, ⟨_, SqL.of e0⟩, fun L nL => lc_errs S.len (SqL.of e0) (F0.kp.es.app F0.kp.en) (fun q hq => by
      simp only [List.mem_cons, List.mem_append, List.not_mem_nil, or_false] at hq
      rcases hq with (rfl | rfl | rfl | rfl | rfl | rfl | rfl | rfl) | rfl | rfl | rfl | rfl | rfl | rfl | rfl | rfl <;> exact ⟨Z.X _ (Nat.le_of_ble_eq_true rfl), G.s _ (Nat.le_of_ble_eq_true rfl) (Nat.le_of_ble_eq_true rfl)⟩) (Nat.le_of_ble_eq_true rfl) nL fun H1 s1 e1 => ?_⟩
  have F1 := F0.same s1
  refine ⟨L, dW 8 x k d, rfl, .lst (SqL.of e1) (dpAll_rep F1.dt F1.dO 8 8), sh8.sh, sh8.nd, sh8.de, sh8.le, ?_⟩
  refine ⟨_, S.th, Nat.le_of_ble_eq_true rfl, fun p1 n1 => ?_⟩
  generalize hq : upd H1 p1 _ = H2
  obtain ⟨s2, e2⟩ := new_facts n1 hq
  clear hq
  refine ⟨_, _, _, rfl, rfl, e2, by decide, by decide, Nat.le_of_ble_eq_true rfl, fun p2 n2 => ?_⟩
  generalize hq : upd H2 p2 _ = H3
  obtain ⟨s3, e3⟩ := new_facts n2 hq
  clear hq
  refine ⟨_, S.ot, Nat.le_of_ble_eq_true rfl, fun p3 n3 => ?_⟩
  generalize hq : upd H3 p3 _ = H4
  obtain ⟨s4, e4⟩ := new_facts n3 hq
  clear hq
  refine ⟨_, _, _, rfl, rfl, e4, by decide, by decide, Nat.le_of_ble_eq_true rfl, fun p4 n4 => ?_⟩
  generalize hq : upd H4 p4 _ = H5
  obtain ⟨s5, e5⟩ := new_facts n4 hq
  clear hq
  refine ⟨_, _, _, _, rfl, rfl, s5 _ _ (s4 _ _ e3), e5, Nat.le_of_ble_eq_true rfl, fun p5 n5 => ?_⟩
  generalize hq : upd H5 p5 _ = H6
  obtain ⟨s6, e6⟩ := new_facts n5 hq
  clear hq
  have t6 := s2.trans (s3.trans (s4.trans (s5.trans s6)))
  have F6 := F1.same t6
  refine ⟨p5, dW 8 x k d, rfl, .lst (SqL.of e6) (dpAll_rep F6.dt F6.dO 8 8), sh8.sh, sh8.nd, sh8.de, sh8.le, rfl, _, rfl, ?_⟩
  rw [decide_eq_true rfl]
  refine iteF ?_
  exact go _ (s0.trans (s1.trans t6))
set_option maxHeartbeats 4000000 in
theorem blk_13 (T : Txt mg) (Z : Kinds K c W) (G : Fields K c) (hr : Room 6 (A.deeper (envOfC "law" (defScope s_law) s.heap.objs.size fa cdv))) (gd : (A.deeper (envOfC "law" (defScope s_law) s.heap.objs.size fa cdv)).guards = some []) : PS (cxOf CX0 P w K mg base ["script", "k", "box", "thing", "other", "words", "spots", "named", "rings", "lost", "n", "one"] "law" (defScope s_law) fa cdv A outer s H E).nox (nth kBody 13) (tKeep K c) := by
  refine ps_pre (ps_if (pt_cmpR op_ne (pe_callB (call_reprD gd hr.units) (by rfl) T.repr (by decide +kernel) (pa_cons (pe_op op_cat (pe_lc (own := [("one", 11)]) (g := gName 11) (tt := tYes) (te := tErrF K "ring" (tVar 11)) rfl sc_law.nd (pi_list (pv 8)) (blkOk_by (own := [("one", 11)]) (N := ["script", "k", "box", "thing", "other", "words", "spots", "named", "rings", "lost", "n", "one"]) (sc := defScope s_law) (by decide +kernel)) (fun _ _ _ _ _ => (pg_name (i := 11) sc_law.nd rfl (Or.inl rfl))) (fun _ _ _ _ _ => pts_nil) (fun _ _ _ _ _ => (pe_errf (pv 11)))) (pe_lc (own := [("one", 11)]) (g := gName 11) (tt := tYes) (te := tErrF K "name" (tVar 11)) rfl sc_law.nd (pi_list (pv 9)) (blkOk_by (own := [("one", 11)]) (N := ["script", "k", "box", "thing", "other", "words", "spots", "named", "rings", "lost", "n", "one"]) (sc := defScope s_law) (by decide +kernel)) (fun _ _ _ _ _ => (pg_name (i := 11) sc_law.nd rfl (Or.inl rfl))) (fun _ _ _ _ _ => pts_nil) (fun _ _ _ _ _ => (pe_errf (pv 11))))) pa_nil)) (pe_callB (call_reprD gd hr.units) (by rfl) T.repr (by decide +kernel) (pa_cons (pe_op op_rep (pe_lst (pa_cons (pv 3) (pa_cons (pv 4) pa_nil))) pe_int) pa_nil)) (nomark _))
        (pss_one (ps_ret pe_bl))
        pss_nil) ?_
  rintro D σ H ⟨th, ot, pw, ps, pn, pr, pl, xw, xs, xn, xr, xl, x, k, d, S, F, go⟩
  obtain ⟨sh3, sh8, shR⟩ := shows_all F.hx F.hk F.hd
  refine ⟨_, S.r, pr, rfl, ⟨_, SqL.of F.kp.r⟩, fun L nL => lc_errs S.len (SqL.of F.kp.r) F.kp.er (fun q hq => by
      simp only [List.mem_cons, List.mem_append, List.not_mem_nil, or_false] at hq
      rcases hq with rfl | rfl <;> exact ⟨Z.X _ (Nat.le_of_ble_eq_true rfl), G.r⟩) (Nat.le_of_ble_eq_true rfl) nL fun H1 s1 e1 => ?_⟩
  have F1 := F.same s1
  refine ⟨_, S.l, pl, rfl, ⟨_, SqL.of F1.kp.l⟩, fun L2 nL2 => lc_errs S.len (SqL.of F1.kp.l) F1.kp.el (fun q hq => by
      simp only [List.mem_cons, List.mem_append, List.not_mem_nil, or_false] at hq
      rcases hq with rfl | rfl <;> exact ⟨Z.X _ (Nat.le_of_ble_eq_true rfl), G.l⟩) (Nat.le_of_ble_eq_true rfl) nL2 fun H2 s2 e2 => ?_⟩
  refine ⟨_, _, _, _, rfl, rfl, s2 _ _ e1, e2, Nat.le_of_ble_eq_true rfl, fun p3 n3 => ?_⟩
  generalize hq : upd H2 p3 _ = H3
  obtain ⟨s3, e3⟩ := new_facts n3 hq
  clear hq
  have F3 := F1.same (s2.trans s3)
  refine ⟨p3, dR x k d, rfl, .lst (SqL.of e3) (.cons F3.dt (.cons F3.dO (.cons F3.dt (.cons F3.dO .nil)))), shR.sh, shR.nd, shR.de, shR.le, ?_⟩
  refine ⟨_, S.th, _, S.ot, Nat.le_of_ble_eq_true rfl, fun p4 n4 => ?_⟩
  generalize hq : upd H3 p4 _ = H4
  obtain ⟨s4, e4⟩ := new_facts n4 hq
  clear hq
  refine ⟨_, _, _, rfl, rfl, e4, by decide, by decide, Nat.le_of_ble_eq_true rfl, fun p5 n5 => ?_⟩
  generalize hq : upd H4 p5 _ = H5
  obtain ⟨s5, e5⟩ := new_facts n5 hq
  clear hq
  have F5 := F3.same (s4.trans s5)
  refine ⟨p5, dR x k d, rfl, .lst (SqL.of e5) (.cons F5.dt (.cons F5.dO (.cons F5.dt (.cons F5.dO .nil)))), shR.sh, shR.nd, shR.de, shR.le, rfl, _, rfl, ?_⟩
  rw [decide_eq_true rfl]
  refine iteF ?_
  exact go _ (s1.trans (s2.trans (s3.trans (s4.trans s5))))
end
end My

namespace My
open PySem PySem.Spec PyProof.Rows L2
local macro_rules | `(tactic| walk_at "side") => `(tactic| first | (dsimp only; omega) | exact ⟨by omega, by omega⟩ | exact Or.inl ⟨by omega, by omega⟩ | exact Or.inr ⟨by omega, by omega⟩ | decide)
local macro_rules | `(tactic| walk_at "sq") => `(tactic| first | assumption | exact SqL.of (by assumption) | exact SqT.of (by assumption) | (refine L2.Same.seq (by assumption) ?_; walk_at "sq") | (refine L2.Same.seqT (by assumption) ?_; walk_at "sq") | exact Or.inl (by walk_at "sq") | exact Or.inr (by walk_at "sq"))
local macro_rules | `(tactic| walk_at "1") => `(tactic| first
  | refine ⟨_, rfl, iteT ?_⟩
  | refine ⟨_, rfl, iteF ?_⟩
  | refine ⟨_, rfl, ?_⟩
  | refine ⟨_, _, rfl, rfl, (by walk_at "side"), ?_⟩
  | refine ⟨_, _, rfl, rfl, ?_⟩
  | refine ⟨_, _, _, _, true, rfl, .ty _, .base (.int _), kit_ty (a := "int") (by decide +kernel), ?_⟩
  | refine ⟨_, _, _, _, false, rfl, .ty _, .base (.int _), kit_ty (a := "int") (by decide +kernel), ?_⟩
  | refine ⟨_, _, rfl, (by walk_at "sq"), ?_⟩
  | refine ⟨_, _, _, _, rfl, rfl, (by walk_at "sq"), (by first | rfl | assumption), ?_⟩
  | refine Or.inl ⟨_, _, _, _, rfl, rfl, (by walk_at "sq"), (by first | rfl | assumption), ?_⟩
  | refine Or.inr (Or.inl ⟨_, _, _, _, rfl, rfl, (by walk_at "sq"), (by first | rfl | assumption), ?_⟩)
  | refine ⟨_, _, rfl, Or.inl ⟨(by walk_at "sq"), ?_⟩⟩
  | refine ⟨rfl, ?_⟩
  | refine iteT ?_
  | refine iteF ?_
  | refine ⟨_, _, _, _, _, rfl, (by assumption), (by assumption), (by assumption), (by assumption), ?_⟩
  | refine Or.inl ⟨_, rfl, ?_⟩
  | refine Or.inr ⟨_, rfl, ?_⟩
  | refine ⟨_, _, rfl, (by walk_at "side"), ?_⟩
  | refine ⟨_, _, rfl, ?_⟩)
local macro_rules | `(tactic| walk_at "fld") => `(tactic| skip)
local macro_rules | `(tactic| walk_at "s") => `(tactic| repeat walk_at "1")
local macro_rules | `(tactic| walk_at "size") => `(tactic| first | exact Nat.le_of_ble_eq_true rfl | (simp only [List.length_map, List.length_append, List.length_cons, List.length_nil]; omega))
local macro_rules | `(tactic| walk_at "new") => `(tactic| (first | refine ⟨(by walk_at "size"), fun p hp => ?_⟩ | refine fun p hp => ?_); (generalize hq : upd _ p _ = H1); (obtain ⟨s, e⟩ := new_facts hp hq); clear hq)

open MyG MyX
/-- the classes without an own __init__ -/
structure Bare (K : PySem.W.Frag) (mg : Str → Option Value) (x : Str) (C : Addr) : Prop where
  ex : ∃ bmB B nid iid, ExcBaseFacts B nid iid bmB ∧ PySem.W.excIn K C bmB nid = true
  kC : PySem.W.keepIn K (.ref C) = true
  m : mg x = some (.ref C)
theorem pe_bare {X : Cx} {x : Str} {C : Addr} {p pos : Pos} (M : Bare X.K X.mg x C) (hg : Gl X x := by exact rfl) (hdb : (x == ("__debug__" : Str)) = false := by decide) : PE X (.Call (.Name x p) [] [] pos) (fun _ H Q => ∀ a, H a = none → Q (.ref a) (upd H a (exo a C none))) := by
  obtain ⟨bmB, B, nid, iid, F, own⟩ := M.ex
  exact pe_err0 F own M.m M.kC hg hdb
section
variable {H : Hp} {c : Nat → Addr} {f : Str} {xs : List V} {i : Nat} {y : V} {ys : List (Nat × V)}
theorem EAs.inv (h : EAs H c f xs ((i, y) :: ys)) : ∃ a xs', xs = .ref a :: xs' ∧ ErrAt H a (c i) f y ∧ EAs H c f xs' ys := by
  cases h with
  | cons h t => exact ⟨_, _, rfl, h, t⟩
theorem EAs.inv0 (h : EAs H c f xs []) : xs = [] := by
  cases h
  rfl
end
theorem for_enum {K : PySem.W.Frag} {H0 : Hp} {a : Addr} {xs : List V} {g : TG} {tb : TS} {D : Ends} {σ : L2.St} {H : Hp} (e : SqL K H0 a xs) (Pv : Nat → L2.St → Hp → Prop) (h0 : Pv 0 σ H) (hl : ∀ i σ H, Pv i σ H → Same H0 H)
    (hs : ∀ i x T σ H, xs[i]? = some x → Pv i σ H → H T = none → g (.ref T) σ (upd H T (.tup [.int ((i : Nat) : Int), x])) fun σ2 H2 => tb { D with nx := Pv (i + 1), ct := Pv (i + 1), bk := D.nx } σ2 H2) (hd : ∀ σ H, Pv xs.length σ H → D.nx σ H) :
    ∃ W : Nat → Nat → L2.St → Hp → Prop, (∃ m, W 0 m σ H) ∧ ∀ i m σ H, W i m σ H →
      ((Ite K a).stop i H ∧ D.nx σ H) ∨ ((Ite K a).go i H ∧ ∃ N : L2.St → Hp → Prop, (∀ σ' H', N σ' H' → ∃ m', m' < m ∧ W (i + 1) m' σ' H') ∧ ∀ x H', (Ite K a).yld i H x H' → g x σ H' fun σ2 H2 => tb { D with nx := N, ct := N, bk := D.nx } σ2 H2) := by
  refine ⟨fun i m σ H => m + i = xs.length ∧ Pv i σ H, ⟨xs.length, by omega, h0⟩, fun i m σ H q => ?_⟩
  obtain ⟨em, p⟩ := q
  have e1 := (hl i σ H p).seq e
  by_cases hlt : i < xs.length
  · refine Or.inr ⟨⟨xs, xs[i], e1, by simp [hlt]⟩, Pv (i + 1), fun σ' H' p' => ⟨m - 1, by omega, by omega, p'⟩, fun x H' y => ?_⟩
    obtain ⟨T, x', rfl, nT, rfl, all⟩ := y
    exact hs i x' T _ _ (all xs e1) p nT
  · have e2 : i = xs.length := by omega
    subst e2
    exact Or.inl ⟨⟨xs, e1, Nat.le_refl _⟩, hd _ _ p⟩
section
variable {P : Program} {w : World} {K : PySem.W.Frag} {mg : Str → Option Value} {base : Heap} {c : Nat → Addr} {W : Addr} {fa : Addr} {cdv : Value} {A : Around} {outer : List Env} {s : Shared} {H : Hp} {E : XK}
def tEach (c : Nat → Addr) : TS := fun D σ H => ∃ th ot pw ps pn pr pl xw xs xn xr xl, Sl σ th ot pw ps pn pr pl ∧ Kept c H th ot pw ps pn pr pl xw xs xn xr xl ∧ ∀ H' z10 z11, Same H H' → D.nx ((σ.set 10 z10).set 11 z11) H'
/-- the sixteenth part: each error of the list is of its own class -/
def Own15 (H : Hp) (c : Nat → Addr) (zs : List V) : Prop := ∀ j x, zs[j]? = some x → j < 15 ∧ ∃ a, x = .ref a ∧ ErrOf H a (c j)
theorem own15 {H : Hp} {c : Nat → Addr} {a0 a1 a2 a3 a4 a5 a6 a7 a8 a9 a10 a11 a12 a13 a14 : Addr} (h0 : ErrOf H a0 (c 0)) (h1 : ErrOf H a1 (c 1)) (h2 : ErrOf H a2 (c 2)) (h3 : ErrOf H a3 (c 3)) (h4 : ErrOf H a4 (c 4)) (h5 : ErrOf H a5 (c 5)) (h6 : ErrOf H a6 (c 6)) (h7 : ErrOf H a7 (c 7))
    (h8 : ErrOf H a8 (c 8)) (h9 : ErrOf H a9 (c 9)) (h10 : ErrOf H a10 (c 10)) (h11 : ErrOf H a11 (c 11)) (h12 : ErrOf H a12 (c 12)) (h13 : ErrOf H a13 (c 13)) (h14 : ErrOf H a14 (c 14)) :
    Own15 H c [.ref a0, .ref a1, .ref a2, .ref a3, .ref a4, .ref a5, .ref a6, .ref a7, .ref a8, .ref a9, .ref a10, .ref a11, .ref a12, .ref a13, .ref a14] := by
  intro j x e
  match j, e with
  | 0, e => exact ⟨by decide, a0, (Option.some.inj e).symm, h0⟩
  | 1, e => exact ⟨by decide, a1, (Option.some.inj e).symm, h1⟩
  | 2, e => exact ⟨by decide, a2, (Option.some.inj e).symm, h2⟩
  | 3, e => exact ⟨by decide, a3, (Option.some.inj e).symm, h3⟩
  | 4, e => exact ⟨by decide, a4, (Option.some.inj e).symm, h4⟩
  | 5, e => exact ⟨by decide, a5, (Option.some.inj e).symm, h5⟩
  | 6, e => exact ⟨by decide, a6, (Option.some.inj e).symm, h6⟩
  | 7, e => exact ⟨by decide, a7, (Option.some.inj e).symm, h7⟩
  | 8, e => exact ⟨by decide, a8, (Option.some.inj e).symm, h8⟩
  | 9, e => exact ⟨by decide, a9, (Option.some.inj e).symm, h9⟩
  | 10, e => exact ⟨by decide, a10, (Option.some.inj e).symm, h10⟩
  | 11, e => exact ⟨by decide, a11, (Option.some.inj e).symm, h11⟩
  | 12, e => exact ⟨by decide, a12, (Option.some.inj e).symm, h12⟩
  | 13, e => exact ⟨by decide, a13, (Option.some.inj e).symm, h13⟩
  | 14, e => exact ⟨by decide, a14, (Option.some.inj e).symm, h14⟩
  | j + 15, e => cases j <;> cases e
theorem cut_to {xs : List V} {t : Nat} (h : t ≤ xs.length) : cutV xs none (some (t : Int)) = xs.take t := by
  unfold cutV
  rw [HT.sIx_nat, HT.sIx_none, Nat.min_eq_left h, Nat.sub_zero]
  rfl
theorem slW : ∀ (x0 x1 x2 : V) (r : List V), cutV (x0 :: x1 :: x2 :: r) none (some 3) = [x0, x1, x2] := fun x0 x1 x2 r => by
  show cutV _ none (some ((3 : Nat) : Int)) = _
  rw [cut_to (by simp only [List.length_cons]; omega)]
  rfl
theorem slR : ∀ (x0 : V) (r : List V), cutV (x0 :: r) none (some 1) = [x0] := fun x0 r => by
  show cutV _ none (some ((1 : Nat) : Int)) = _
  rw [cut_to (by simp only [List.length_cons]; omega)]
  rfl
set_option maxHeartbeats 8000000 in
theorem blk_14 (T : Txt mg) (b12 : Bare K mg "InvalidContract" (c 12)) (b13 : Bare K mg "InvalidChoice" (c 13)) (b14 : Bare K mg "InvalidCommand" (c 14)) (o_law_is_own : Own P w K mg base "_law_is_own" 2 ["made", "spot"] (spOwnE c)) (hr : Room 6 (A.deeper (envOfC "law" (defScope s_law) s.heap.objs.size fa cdv))) : PS (cxOf CX0 P w K mg base ["script", "k", "box", "thing", "other", "words", "spots", "named", "rings", "lost", "n", "one"] "law" (defScope s_law) fa cdv A outer s H E).nox (nth kBody 14) (tEach c) := by
  refine ps_pre (ps_for PassesOwn.never rfl (pi_enum (by rfl) T.enumerate (pa_cons (pe_op op_cat (pe_op op_cat (pe_op op_cat (pe_slice sl_list (pv 5) po_none (po_some pe_int)) (pv 6)) (pe_slice sl_list (pv 8) po_none (po_some pe_int))) (pe_lst (pa_cons (pe_bare b12) (pa_cons (pe_bare b13) (pa_cons (pe_bare b14) pa_nil))))) pa_nil)) (pg_tup (by rfl) (pgs_cons (pg_name (i := 10) sc_law.nd rfl (Or.inl rfl)) (pgs_cons (pg_name (i := 11) sc_law.nd rfl (Or.inl rfl)) pgs_nil)))
        (pss_one (ps_if (pt_not (pt_val (pe_own o_law_is_own (hr.mono (by decide)) (pa_cons (pv 11) (pa_cons (pv 10) pa_nil)))))
            (pss_one (ps_ret pe_bl))
            pss_nil))) ?_
  rintro D σ H ⟨th, ot, pw, ps, pn, pr, pl, xw, xs, xn, xr, xl, S, F, go⟩
  obtain ⟨a0, t, rfl, h0, ew⟩ := F.ew.inv
  obtain ⟨a1, t, rfl, h1, ew⟩ := ew.inv
  obtain ⟨a2, tw, rfl, h2, _⟩ := ew.inv
  obtain ⟨a3, t, rfl, h3, es⟩ := F.es.inv
  obtain ⟨a4, t, rfl, h4, es⟩ := es.inv
  obtain ⟨a5, t, rfl, h5, es⟩ := es.inv
  obtain ⟨a6, t, rfl, h6, es⟩ := es.inv
  obtain ⟨a7, t, rfl, h7, es⟩ := es.inv
  obtain ⟨a8, t, rfl, h8, es⟩ := es.inv
  obtain ⟨a9, t, rfl, h9, es⟩ := es.inv
  obtain ⟨a10, t, rfl, h10, es⟩ := es.inv
  obtain rfl := es.inv0
  obtain ⟨a11, tr, rfl, h11, _⟩ := F.er.inv
  have hw := F.w
  have hs := F.s
  have hr8 := F.r
  clear F ew es
  refine ⟨_, S.w, _, rfl, _, _, rfl, SqL.of hw, fun p1 n1 => ?_⟩
  generalize hq : upd H p1 _ = H1
  obtain ⟨s1, e1⟩ := new_facts n1 hq
  clear hq
  refine ⟨_, S.s, _, _, _, _, rfl, rfl, e1, s1 _ _ hs, ?_, fun p2 n2 => ?_⟩
  · rw [slW]
    exact Nat.le_of_ble_eq_true rfl
  generalize hq : upd H1 p2 _ = H2
  obtain ⟨s2, e2⟩ := new_facts n2 hq
  clear hq
  refine ⟨_, S.r, _, rfl, _, _, rfl, SqL.of (s2 _ _ (s1 _ _ hr8)), fun p3 n3 => ?_⟩
  generalize hq : upd H2 p3 _ = H3
  obtain ⟨s3, e3⟩ := new_facts n3 hq
  clear hq
  refine ⟨_, _, _, _, rfl, rfl, s3 _ _ e2, e3, ?_, fun p4 n4 => ?_⟩
  · rw [slW, slR]
    exact Nat.le_of_ble_eq_true rfl
  generalize hq : upd H3 p4 _ = H4
  obtain ⟨s4, e4⟩ := new_facts n4 hq
  clear hq
  rw [slW, slR] at e4
  refine fun a12 n12 => ?_
  generalize hq : upd H4 a12 _ = H5
  obtain ⟨s5, e5⟩ := new_facts n12 hq
  clear hq
  refine fun a13 n13 => ?_
  generalize hq : upd H5 a13 _ = H6
  obtain ⟨s6, e6⟩ := new_facts n13 hq
  clear hq
  refine fun a14 n14 => ?_
  generalize hq : upd H6 a14 _ = H7
  obtain ⟨s7, e7⟩ := new_facts n14 hq
  clear hq
  refine ⟨Nat.le_of_ble_eq_true rfl, fun p8 n8 => ?_⟩
  generalize hq : upd H7 p8 _ = H8
  obtain ⟨s8, e8⟩ := new_facts n8 hq
  clear hq
  have s48 := s5.trans (s6.trans (s7.trans s8))
  refine ⟨_, _, _, _, rfl, rfl, s48 _ _ e4, e8, Nat.le_of_ble_eq_true rfl, fun p9 n9 => ?_⟩
  generalize hq : upd H8 p9 _ = H9
  obtain ⟨s9, e9⟩ := new_facts n9 hq
  clear hq
  have s49 := s48.trans s9
  have s09 : Same H H9 := s1.trans (s2.trans (s3.trans (s4.trans s49)))
  have o15 := own15 (H := H9) (s09.err h0).of (s09.err h1).of (s09.err h2).of (s09.err h3).of (s09.err h4).of (s09.err h5).of (s09.err h6).of (s09.err h7).of (s09.err h8).of (s09.err h9).of (s09.err h10).of (s09.err h11).of
    (Or.inl ((s6.trans (s7.trans (s8.trans s9))) _ _ e5)) (Or.inl ((s7.trans (s8.trans s9)) _ _ e6)) (Or.inl ((s8.trans s9) _ _ e7))
  have l10 : 10 < σ.length := Nat.lt_trans (by decide) S.len
  have l11 := S.len
  generalize hz : [V.ref a0, .ref a1, .ref a2, .ref a3, .ref a4, .ref a5, .ref a6, .ref a7, .ref a8, .ref a9, .ref a10, .ref a11, .ref a12, .ref a13, .ref a14] = zs at o15
  have e9' : H9 p9 = some (.lst zs) := by
    rw [e9, ← hz]
    rfl
  clear e9 hz h0 h1 h2 h3 h4 h5 h6 h7 h8 h9 h10 h11 hw hs hr8
  refine ⟨p9, zs, rfl, SqL.of e9', for_enum (SqL.of e9') (fun i σ' H' => Same H9 H' ∧ ∃ z10 z11, σ' = (σ.set 10 z10).set 11 z11) ⟨Same.refl _, σ[10], σ[11], by simp⟩ (fun i σ H q => q.1) ?_ ?_⟩
  · rintro i x T σ' H' ex ⟨t, z10, z11, rfl⟩ nT
    obtain ⟨hi, a, rfl, he⟩ := o15 i x ex
    have t2 := t.trans (same_upd (o := .tup [.int ((i : Nat) : Int), .ref a]) nT)
    have v10 : ((((σ.set 10 z10).set 11 z11).set 10 (some (.int (i : Int)))).set 11 (some (.ref a)))[10]? = some (some (V.int (i : Int))) := by
      rw [List.getElem?_set_ne (by decide), List.getElem?_set_self (by simpa using l10)]
    have v11 : ((((σ.set 10 z10).set 11 z11).set 10 (some (.int (i : Int)))).set 11 (some (.ref a)))[11]? = some (some (V.ref a)) := by
      rw [List.getElem?_set_self (by simpa using l11)]
    refine ⟨T, _, rfl, SqT.of upd_same, rfl, _, _, rfl, _, _, rfl, rfl, ?_⟩
    refine ⟨_, v11, _, v10, a, i, rfl, by omega, t2.errOf he, fun H2 s2 => ?_⟩
    refine ⟨true, rfl, ?_⟩
    refine iteF ?_
    exact ⟨t2.trans s2, _, _, by rw [List.set_comm _ _ (by decide : (11 : Nat) ≠ 10), List.set_set, List.set_set]⟩
  · rintro σ' H' ⟨t, z10, z11, rfl⟩
    exact go _ _ _ (s09.trans t)
def tOn (c : Nat → Addr) : TS := fun D σ H => ∃ th ot pw ps pn pr pl xw xs xn xr xl, Sl σ th ot pw ps pn pr pl ∧ Kept c H th ot pw ps pn pr pl xw xs xn xr xl ∧ ∀ H', Same H H' → D.nx σ H'
set_option maxHeartbeats 8000000 in
theorem blk_15 (o_law_is_own : Own P w K mg base "_law_is_own" 2 ["made", "spot"] (spOwnE c)) (hr : Room 6 (A.deeper (envOfC "law" (defScope s_law) s.heap.objs.size fa cdv))) : PS (cxOf CX0 P w K mg base ["script", "k", "box", "thing", "other", "words", "spots", "named", "rings", "lost", "n", "one"] "law" (defScope s_law) fa cdv A outer s H E).nox (nth kBody 15) (tOn c) := by
  refine ps_pre (ps_if (PW.pt (pw_or (pt_not (pt_val (pe_own o_law_is_own (hr.mono (by decide)) (pa_cons (pe_ix ix_list (pv 9) pe_int (fun _ _ => rfl)) (pa_cons pe_int pa_nil))))) (pw_or (pt_not (pt_val (pe_own o_law_is_own (hr.mono (by decide)) (pa_cons (pe_ix ix_list (pv 7) pe_int (fun _ _ => rfl)) (pa_cons pe_int pa_nil))))) (pw_or1 (pt_not (pt_val (pe_own o_law_is_own (hr.mono (by decide)) (pa_cons (pe_ix ix_list (pv 5) pe_int (fun _ _ => rfl)) (pa_cons pe_int pa_nil)))))))))
        (pss_one (ps_ret pe_bl))
        pss_nil) ?_
  rintro D σ H ⟨th, ot, pw, ps, pn, pr, pl, xw, xs, xn, xr, xl, S, F, go⟩
  obtain ⟨a0, t, e0, h0, _⟩ := F.el.inv
  obtain ⟨a1, e1, h1⟩ : ∃ a, xn[7]? = some (.ref a) ∧ ErrAt H a (c 10) "at" (.ref ot) := by
    obtain ⟨b0, t, rfl, _, z⟩ := F.en.inv
    obtain ⟨b1, t, rfl, _, z⟩ := z.inv
    obtain ⟨b2, t, rfl, _, z⟩ := z.inv
    obtain ⟨b3, t, rfl, _, z⟩ := z.inv
    obtain ⟨b4, t, rfl, _, z⟩ := z.inv
    obtain ⟨b5, t, rfl, _, z⟩ := z.inv
    obtain ⟨b6, t, rfl, _, z⟩ := z.inv
    obtain ⟨b7, t, rfl, h, z⟩ := z.inv
    exact ⟨b7, rfl, h⟩
  obtain ⟨a2, e2, h2⟩ : ∃ a, xw[5]? = some (.ref a) ∧ ErrAt H a (c 2) "word" (.ref ot) := by
    obtain ⟨b0, t, rfl, _, z⟩ := F.ew.inv
    obtain ⟨b1, t, rfl, _, z⟩ := z.inv
    obtain ⟨b2, t, rfl, _, z⟩ := z.inv
    obtain ⟨b3, t, rfl, _, z⟩ := z.inv
    obtain ⟨b4, t, rfl, _, z⟩ := z.inv
    obtain ⟨b5, t, rfl, h, z⟩ := z.inv
    exact ⟨b5, rfl, h⟩
  have i0 : atI xl 0 = some (V.ref a0) := atI_nat (j := 0) (by rw [e0]; rfl)
  have i1 : atI xn 7 = some (V.ref a1) := atI_nat e1
  have i2 : atI xw 5 = some (V.ref a2) := atI_nat e2
  have fl := F.l
  have fn := F.n
  have fw := F.w
  clear e0 e1 e2 F
  refine ⟨_, S.l, pl, xl, 0, _, rfl, rfl, SqL.of fl, i0, a0, 15, rfl, by decide, h0.of, fun H1 s1 => ⟨true, rfl, ?_⟩⟩
  refine iteF ?_
  refine ⟨_, S.n, pn, xn, 7, _, rfl, rfl, SqL.of (s1 _ _ fn), i1, a1, 10, rfl, by decide, (s1.err h1).of, fun H2 s2 => ⟨true, rfl, ?_⟩⟩
  refine iteF ?_
  refine ⟨_, S.w, pw, xw, 5, _, rfl, rfl, SqL.of (s2 _ _ (s1 _ _ fw)), i2, a2, 2, rfl, by decide, (s2.err (s1.err h2)).of, fun H3 s3 => ⟨true, rfl, ?_⟩⟩
  refine iteF ?_
  exact go _ (s1.trans (s2.trans s3))
def tLast : TS := fun D σ H => ∀ H', Same H H' → D.nx σ H'
theorem eqv_no : PyData.eqv (.list ((List.range 16).map fun _ => PyData.bool false)) (.list ((List.range 16).map fun _ => PyData.bool false)) = true := by decide +kernel
theorem sh_no : SeqAt.shaped (.list ((List.range 16).map fun _ => PyData.bool false)) = true := by decide +kernel
set_option maxHeartbeats 8000000 in
theorem blk_16 (T : Txt mg) (Z : Kinds K c W) (bW : Bare K mg "WaitError" W) (o_law_kinds : Own P w K mg base "_law_kinds" 1 ["made"] (spKinds K c)) (hr : Room 6 (A.deeper (envOfC "law" (defScope s_law) s.heap.objs.size fa cdv))) : PS (cxOf CX0 P w K mg base ["script", "k", "box", "thing", "other", "words", "spots", "named", "rings", "lost", "n", "one"] "law" (defScope s_law) fa cdv A outer s H E).nox (nth kBody 16) tLast := by
  refine ps_pre (ps_if (PW.pt (pw_or (pt_cmpR (op_neD hr.units) (pe_own o_law_kinds (hr.mono (by decide)) (pa_cons (pe_bare bW) pa_nil)) (pe_op op_rep (pe_lst (pa_cons pe_bl pa_nil)) pe_int) (nomark _)) (pw_or1 (pt_not (pt_val (pe_callB call_isErr (by rfl) T.isinstance (by decide +kernel) (pa_cons (pe_bare bW) (pa_cons (pe_bltn (v := .ty "ValueError") (u := .type "ValueError") (by rfl) T.ve (by decide +kernel) rfl) pa_nil))))))))
        (pss_one (ps_ret pe_bl))
        pss_nil) ?_
  rintro D σ H go
  refine fun a n => ?_
  generalize hq : upd H a _ = H1
  obtain ⟨s1, e1⟩ := new_facts n hq
  clear hq
  refine ⟨a, W, fun _ => false, rfl, Or.inl e1, Z.XW, Z.wk, fun H2 p s2 e2 => ?_⟩
  refine ⟨Nat.le_of_ble_eq_true rfl, fun p3 n3 => ?_⟩
  generalize hq : upd H2 p3 _ = H3
  obtain ⟨s3, e3⟩ := new_facts n3 hq
  clear hq
  refine ⟨_, _, _, rfl, rfl, e3, by decide, by decide, Nat.le_of_ble_eq_true rfl, fun p4 n4 => ?_⟩
  generalize hq : upd H3 p4 _ = H4
  obtain ⟨s4, e4⟩ := new_facts n4 hq
  clear hq
  have e4' : H4 p4 = some (.lst (bls fun _ => false)) := e4
  refine ⟨_, _, dp_bls _ (s4 _ _ (s3 _ _ e2)), dp_bls _ e4', sh_no, sh_no, _, rfl, ?_⟩
  rw [eqv_no]
  refine iteF ?_
  refine fun b nb => ?_
  generalize hq : upd H4 b _ = H5
  obtain ⟨s5, e5⟩ := new_facts nb hq
  clear hq
  refine ⟨b, W, _, _, true, rfl, Or.inl e5, Z.XW, fun _ r => r, Z.wV, true, rfl, ?_⟩
  refine iteF ?_
  exact go _ (s1.trans (s2.trans (s3.trans (s4.trans s5))))
end
end My

namespace My
open PySem PySem.Spec PyProof.Rows L2
local macro_rules | `(tactic| walk_at "side") => `(tactic| first | (dsimp only; omega) | exact ⟨by omega, by omega⟩ | exact Or.inl ⟨by omega, by omega⟩ | exact Or.inr ⟨by omega, by omega⟩ | decide)
local macro_rules | `(tactic| walk_at "sq") => `(tactic| first | assumption | exact SqL.of (by assumption) | exact SqT.of (by assumption) | (refine L2.Same.seq (by assumption) ?_; walk_at "sq") | (refine L2.Same.seqT (by assumption) ?_; walk_at "sq") | exact Or.inl (by walk_at "sq") | exact Or.inr (by walk_at "sq"))
local macro_rules | `(tactic| walk_at "1") => `(tactic| first
  | refine ⟨_, rfl, iteT ?_⟩
  | refine ⟨_, rfl, iteF ?_⟩
  | refine ⟨_, rfl, ?_⟩
  | refine ⟨_, _, rfl, rfl, (by walk_at "side"), ?_⟩
  | refine ⟨_, _, rfl, rfl, ?_⟩
  | refine ⟨_, _, _, _, true, rfl, .ty _, .base (.int _), kit_ty (a := "int") (by decide +kernel), ?_⟩
  | refine ⟨_, _, _, _, false, rfl, .ty _, .base (.int _), kit_ty (a := "int") (by decide +kernel), ?_⟩
  | refine ⟨_, _, rfl, (by walk_at "sq"), ?_⟩
  | refine ⟨_, _, _, _, rfl, rfl, (by walk_at "sq"), (by first | rfl | assumption), ?_⟩
  | refine Or.inl ⟨_, _, _, _, rfl, rfl, (by walk_at "sq"), (by first | rfl | assumption), ?_⟩
  | refine Or.inr (Or.inl ⟨_, _, _, _, rfl, rfl, (by walk_at "sq"), (by first | rfl | assumption), ?_⟩)
  | refine ⟨_, _, rfl, Or.inl ⟨(by walk_at "sq"), ?_⟩⟩
  | refine ⟨rfl, ?_⟩
  | refine iteT ?_
  | refine iteF ?_
  | refine ⟨_, _, _, _, _, rfl, (by assumption), (by assumption), (by assumption), (by assumption), ?_⟩
  | refine Or.inl ⟨_, rfl, ?_⟩
  | refine Or.inr ⟨_, rfl, ?_⟩
  | refine ⟨_, _, rfl, (by walk_at "side"), ?_⟩
  | refine ⟨_, _, rfl, ?_⟩)
local macro_rules | `(tactic| walk_at "fld") => `(tactic| skip)
local macro_rules | `(tactic| walk_at "s") => `(tactic| repeat walk_at "1")
local macro_rules | `(tactic| walk_at "size") => `(tactic| first | exact Nat.le_of_ble_eq_true rfl | (simp only [List.length_map, List.length_append, List.length_cons, List.length_nil]; omega))
local macro_rules | `(tactic| walk_at "new") => `(tactic| (first | refine ⟨(by walk_at "size"), fun p hp => ?_⟩ | refine fun p hp => ?_); (generalize hq : upd _ p _ = H1); (obtain ⟨s, e⟩ := new_facts hp hq); clear hq)

open MyG MyX
section
variable {P : Program} {w : World} {K : PySem.W.Frag} {mg : Str → Option Value} {base : Heap} {C : Addr}
theorem kb_one {x qual fld : Str} {st : Stmt} {f : Addr} {fd : FuncData} (F : Fun K x qual st f fd)
    (h : ∀ (kV doc pm : Value) (an : Option Addr) (cdv ct a u : Value), bindArgs (PySem.W.fnOf x qual (defArgs st) (defBody st) (defScope st) .none kV doc pm an cdv ct) ⟨[a], [fld].zip [u]⟩ = pure ([("self" : Str), fld].zip [a, u])) :
    KBn K fd ["self", fld] 1 [fld] (fun us ws => us ++ ws) (fun vs zs => vs ++ zs) := by
  obtain ⟨oc, od, kV, doc, pm, an, cdv, ct, osl, rfl, lk, hcd⟩ := F.ex
  refine ⟨fun s us ws X l1 l2 => ?_, fun r1 r2 => r1.append r2⟩
  match us, ws, l1, l2 with
  | [a], [u], _, _ => exact .of_eq (h kV doc pm an cdv ct a u)
abbrev s_i0 : Stmt := inClass (topS 2) 0
theorem ok_i0 {f1 : Addr} {fd : FuncData} (F : Fun K "__init__" "InvalidRow.__init__" s_i0 f1 fd) (O : XoC K C) (no : PySem.W.findIn K (.ref C) "word" = some none) : FnOk P w K mg base CX0 1 f1 fd ["self", "word"] (spErr1 C "word") := by
  refine F.ok (⟨rfl, rfl, rfl, by decide +kernel, rfl, by decide +kernel, by decide +kernel⟩ : FnScope ["self", "word"] ["self", "word"] (defScope s_i0)) (fun vs H Q E h => ?_) (fun cdv A outer s H vs Q E hr h => ?_)
  · obtain ⟨_, _, rfl, _⟩ := h
    rfl
  · obtain ⟨a, y, rfl, e, k⟩ := h
    exact ⟨_, pss_one (ps_set1 (pv 0) (pv 1)), _, rfl, _, rfl, a, C, rfl, O, no, e, k⟩
theorem mk_i0 {f1 : Addr} {fd : FuncData} (F : Fun K "__init__" "InvalidRow.__init__" s_i0 f1 fd) (O : XoC K C) (no : PySem.W.findIn K (.ref C) "word" = some none) (iC : PySem.W.findIn K (.ref C) "__init__" = some (some (.ref f1))) (tI : PySem.W.typeIn K (.ref f1) = some (.type "function")) (m : mg "InvalidRow" = some (.ref C)) : ErrMk P w K mg base "InvalidRow" "word" C :=
  ⟨O, ⟨f1, fd, ok_i0 F O no, iC, tI, F.binds (fun _ _ _ _ _ _ us hl => match us, hl with | [_, _], _ => rfl), kb_one F fun _ _ _ _ _ _ _ _ => rfl⟩, m⟩
abbrev s_i1 : Stmt := inClass (topS 3) 0
theorem ok_i1 {f1 : Addr} {fd : FuncData} (F : Fun K "__init__" "InvalidModule.__init__" s_i1 f1 fd) (O : XoC K C) (no : PySem.W.findIn K (.ref C) "word" = some none) : FnOk P w K mg base CX0 1 f1 fd ["self", "word"] (spErr1 C "word") := by
  refine F.ok (⟨rfl, rfl, rfl, by decide +kernel, rfl, by decide +kernel, by decide +kernel⟩ : FnScope ["self", "word"] ["self", "word"] (defScope s_i1)) (fun vs H Q E h => ?_) (fun cdv A outer s H vs Q E hr h => ?_)
  · obtain ⟨_, _, rfl, _⟩ := h
    rfl
  · obtain ⟨a, y, rfl, e, k⟩ := h
    exact ⟨_, pss_one (ps_set1 (pv 0) (pv 1)), _, rfl, _, rfl, a, C, rfl, O, no, e, k⟩
theorem mk_i1 {f1 : Addr} {fd : FuncData} (F : Fun K "__init__" "InvalidModule.__init__" s_i1 f1 fd) (O : XoC K C) (no : PySem.W.findIn K (.ref C) "word" = some none) (iC : PySem.W.findIn K (.ref C) "__init__" = some (some (.ref f1))) (tI : PySem.W.typeIn K (.ref f1) = some (.type "function")) (m : mg "InvalidModule" = some (.ref C)) : ErrMk P w K mg base "InvalidModule" "word" C :=
  ⟨O, ⟨f1, fd, ok_i1 F O no, iC, tI, F.binds (fun _ _ _ _ _ _ us hl => match us, hl with | [_, _], _ => rfl), kb_one F fun _ _ _ _ _ _ _ _ => rfl⟩, m⟩
abbrev s_i2 : Stmt := inClass (topS 10) 0
theorem ok_i2 {f1 : Addr} {fd : FuncData} (F : Fun K "__init__" "InvalidTally.__init__" s_i2 f1 fd) (O : XoC K C) (no : PySem.W.findIn K (.ref C) "word" = some none) : FnOk P w K mg base CX0 1 f1 fd ["self", "word"] (spErr1 C "word") := by
  refine F.ok (⟨rfl, rfl, rfl, by decide +kernel, rfl, by decide +kernel, by decide +kernel⟩ : FnScope ["self", "word"] ["self", "word"] (defScope s_i2)) (fun vs H Q E h => ?_) (fun cdv A outer s H vs Q E hr h => ?_)
  · obtain ⟨_, _, rfl, _⟩ := h
    rfl
  · obtain ⟨a, y, rfl, e, k⟩ := h
    exact ⟨_, pss_one (ps_set1 (pv 0) (pv 1)), _, rfl, _, rfl, a, C, rfl, O, no, e, k⟩
theorem mk_i2 {f1 : Addr} {fd : FuncData} (F : Fun K "__init__" "InvalidTally.__init__" s_i2 f1 fd) (O : XoC K C) (no : PySem.W.findIn K (.ref C) "word" = some none) (iC : PySem.W.findIn K (.ref C) "__init__" = some (some (.ref f1))) (tI : PySem.W.typeIn K (.ref f1) = some (.type "function")) (m : mg "InvalidTally" = some (.ref C)) : ErrMk P w K mg base "InvalidTally" "word" C :=
  ⟨O, ⟨f1, fd, ok_i2 F O no, iC, tI, F.binds (fun _ _ _ _ _ _ us hl => match us, hl with | [_, _], _ => rfl), kb_one F fun _ _ _ _ _ _ _ _ => rfl⟩, m⟩
abbrev s_i3 : Stmt := inClass (topS 4) 0
theorem ok_i3 {f1 : Addr} {fd : FuncData} (F : Fun K "__init__" "InvalidHouse.__init__" s_i3 f1 fd) (O : XoC K C) (no : PySem.W.findIn K (.ref C) "at" = some none) : FnOk P w K mg base CX0 1 f1 fd ["self", "at"] (spErr1 C "at") := by
  refine F.ok (⟨rfl, rfl, rfl, by decide +kernel, rfl, by decide +kernel, by decide +kernel⟩ : FnScope ["self", "at"] ["self", "at"] (defScope s_i3)) (fun vs H Q E h => ?_) (fun cdv A outer s H vs Q E hr h => ?_)
  · obtain ⟨_, _, rfl, _⟩ := h
    rfl
  · obtain ⟨a, y, rfl, e, k⟩ := h
    exact ⟨_, pss_one (ps_set1 (pv 0) (pv 1)), _, rfl, _, rfl, a, C, rfl, O, no, e, k⟩
theorem mk_i3 {f1 : Addr} {fd : FuncData} (F : Fun K "__init__" "InvalidHouse.__init__" s_i3 f1 fd) (O : XoC K C) (no : PySem.W.findIn K (.ref C) "at" = some none) (iC : PySem.W.findIn K (.ref C) "__init__" = some (some (.ref f1))) (tI : PySem.W.typeIn K (.ref f1) = some (.type "function")) (m : mg "InvalidHouse" = some (.ref C)) : ErrMk P w K mg base "InvalidHouse" "at" C :=
  ⟨O, ⟨f1, fd, ok_i3 F O no, iC, tI, F.binds (fun _ _ _ _ _ _ us hl => match us, hl with | [_, _], _ => rfl), kb_one F fun _ _ _ _ _ _ _ _ => rfl⟩, m⟩
abbrev s_i4 : Stmt := inClass (topS 5) 0
theorem ok_i4 {f1 : Addr} {fd : FuncData} (F : Fun K "__init__" "InvalidText.__init__" s_i4 f1 fd) (O : XoC K C) (no : PySem.W.findIn K (.ref C) "at" = some none) : FnOk P w K mg base CX0 1 f1 fd ["self", "at"] (spErr1 C "at") := by
  refine F.ok (⟨rfl, rfl, rfl, by decide +kernel, rfl, by decide +kernel, by decide +kernel⟩ : FnScope ["self", "at"] ["self", "at"] (defScope s_i4)) (fun vs H Q E h => ?_) (fun cdv A outer s H vs Q E hr h => ?_)
  · obtain ⟨_, _, rfl, _⟩ := h
    rfl
  · obtain ⟨a, y, rfl, e, k⟩ := h
    exact ⟨_, pss_one (ps_set1 (pv 0) (pv 1)), _, rfl, _, rfl, a, C, rfl, O, no, e, k⟩
theorem mk_i4 {f1 : Addr} {fd : FuncData} (F : Fun K "__init__" "InvalidText.__init__" s_i4 f1 fd) (O : XoC K C) (no : PySem.W.findIn K (.ref C) "at" = some none) (iC : PySem.W.findIn K (.ref C) "__init__" = some (some (.ref f1))) (tI : PySem.W.typeIn K (.ref f1) = some (.type "function")) (m : mg "InvalidText" = some (.ref C)) : ErrMk P w K mg base "InvalidText" "at" C :=
  ⟨O, ⟨f1, fd, ok_i4 F O no, iC, tI, F.binds (fun _ _ _ _ _ _ us hl => match us, hl with | [_, _], _ => rfl), kb_one F fun _ _ _ _ _ _ _ _ => rfl⟩, m⟩
abbrev s_i5 : Stmt := inClass (topS 7) 0
theorem ok_i5 {f1 : Addr} {fd : FuncData} (F : Fun K "__init__" "InvalidArrivals.__init__" s_i5 f1 fd) (O : XoC K C) (no : PySem.W.findIn K (.ref C) "at" = some none) : FnOk P w K mg base CX0 1 f1 fd ["self", "at"] (spErr1 C "at") := by
  refine F.ok (⟨rfl, rfl, rfl, by decide +kernel, rfl, by decide +kernel, by decide +kernel⟩ : FnScope ["self", "at"] ["self", "at"] (defScope s_i5)) (fun vs H Q E h => ?_) (fun cdv A outer s H vs Q E hr h => ?_)
  · obtain ⟨_, _, rfl, _⟩ := h
    rfl
  · obtain ⟨a, y, rfl, e, k⟩ := h
    exact ⟨_, pss_one (ps_set1 (pv 0) (pv 1)), _, rfl, _, rfl, a, C, rfl, O, no, e, k⟩
theorem mk_i5 {f1 : Addr} {fd : FuncData} (F : Fun K "__init__" "InvalidArrivals.__init__" s_i5 f1 fd) (O : XoC K C) (no : PySem.W.findIn K (.ref C) "at" = some none) (iC : PySem.W.findIn K (.ref C) "__init__" = some (some (.ref f1))) (tI : PySem.W.typeIn K (.ref f1) = some (.type "function")) (m : mg "InvalidArrivals" = some (.ref C)) : ErrMk P w K mg base "InvalidArrivals" "at" C :=
  ⟨O, ⟨f1, fd, ok_i5 F O no, iC, tI, F.binds (fun _ _ _ _ _ _ us hl => match us, hl with | [_, _], _ => rfl), kb_one F fun _ _ _ _ _ _ _ _ => rfl⟩, m⟩
abbrev s_i6 : Stmt := inClass (topS 8) 0
theorem ok_i6 {f1 : Addr} {fd : FuncData} (F : Fun K "__init__" "InvalidWishes.__init__" s_i6 f1 fd) (O : XoC K C) (no : PySem.W.findIn K (.ref C) "at" = some none) : FnOk P w K mg base CX0 1 f1 fd ["self", "at"] (spErr1 C "at") := by
  refine F.ok (⟨rfl, rfl, rfl, by decide +kernel, rfl, by decide +kernel, by decide +kernel⟩ : FnScope ["self", "at"] ["self", "at"] (defScope s_i6)) (fun vs H Q E h => ?_) (fun cdv A outer s H vs Q E hr h => ?_)
  · obtain ⟨_, _, rfl, _⟩ := h
    rfl
  · obtain ⟨a, y, rfl, e, k⟩ := h
    exact ⟨_, pss_one (ps_set1 (pv 0) (pv 1)), _, rfl, _, rfl, a, C, rfl, O, no, e, k⟩
theorem mk_i6 {f1 : Addr} {fd : FuncData} (F : Fun K "__init__" "InvalidWishes.__init__" s_i6 f1 fd) (O : XoC K C) (no : PySem.W.findIn K (.ref C) "at" = some none) (iC : PySem.W.findIn K (.ref C) "__init__" = some (some (.ref f1))) (tI : PySem.W.typeIn K (.ref f1) = some (.type "function")) (m : mg "InvalidWishes" = some (.ref C)) : ErrMk P w K mg base "InvalidWishes" "at" C :=
  ⟨O, ⟨f1, fd, ok_i6 F O no, iC, tI, F.binds (fun _ _ _ _ _ _ us hl => match us, hl with | [_, _], _ => rfl), kb_one F fun _ _ _ _ _ _ _ _ => rfl⟩, m⟩
abbrev s_i7 : Stmt := inClass (topS 11) 0
theorem ok_i7 {f1 : Addr} {fd : FuncData} (F : Fun K "__init__" "InvalidLog.__init__" s_i7 f1 fd) (O : XoC K C) (no : PySem.W.findIn K (.ref C) "at" = some none) : FnOk P w K mg base CX0 1 f1 fd ["self", "at"] (spErr1 C "at") := by
  refine F.ok (⟨rfl, rfl, rfl, by decide +kernel, rfl, by decide +kernel, by decide +kernel⟩ : FnScope ["self", "at"] ["self", "at"] (defScope s_i7)) (fun vs H Q E h => ?_) (fun cdv A outer s H vs Q E hr h => ?_)
  · obtain ⟨_, _, rfl, _⟩ := h
    rfl
  · obtain ⟨a, y, rfl, e, k⟩ := h
    exact ⟨_, pss_one (ps_set1 (pv 0) (pv 1)), _, rfl, _, rfl, a, C, rfl, O, no, e, k⟩
theorem mk_i7 {f1 : Addr} {fd : FuncData} (F : Fun K "__init__" "InvalidLog.__init__" s_i7 f1 fd) (O : XoC K C) (no : PySem.W.findIn K (.ref C) "at" = some none) (iC : PySem.W.findIn K (.ref C) "__init__" = some (some (.ref f1))) (tI : PySem.W.typeIn K (.ref f1) = some (.type "function")) (m : mg "InvalidLog" = some (.ref C)) : ErrMk P w K mg base "InvalidLog" "at" C :=
  ⟨O, ⟨f1, fd, ok_i7 F O no, iC, tI, F.binds (fun _ _ _ _ _ _ us hl => match us, hl with | [_, _], _ => rfl), kb_one F fun _ _ _ _ _ _ _ _ => rfl⟩, m⟩
abbrev s_i8 : Stmt := inClass (topS 12) 0
theorem ok_i8 {f1 : Addr} {fd : FuncData} (F : Fun K "__init__" "InvalidMenu.__init__" s_i8 f1 fd) (O : XoC K C) (no : PySem.W.findIn K (.ref C) "at" = some none) : FnOk P w K mg base CX0 1 f1 fd ["self", "at"] (spErr1 C "at") := by
  refine F.ok (⟨rfl, rfl, rfl, by decide +kernel, rfl, by decide +kernel, by decide +kernel⟩ : FnScope ["self", "at"] ["self", "at"] (defScope s_i8)) (fun vs H Q E h => ?_) (fun cdv A outer s H vs Q E hr h => ?_)
  · obtain ⟨_, _, rfl, _⟩ := h
    rfl
  · obtain ⟨a, y, rfl, e, k⟩ := h
    exact ⟨_, pss_one (ps_set1 (pv 0) (pv 1)), _, rfl, _, rfl, a, C, rfl, O, no, e, k⟩
theorem mk_i8 {f1 : Addr} {fd : FuncData} (F : Fun K "__init__" "InvalidMenu.__init__" s_i8 f1 fd) (O : XoC K C) (no : PySem.W.findIn K (.ref C) "at" = some none) (iC : PySem.W.findIn K (.ref C) "__init__" = some (some (.ref f1))) (tI : PySem.W.typeIn K (.ref f1) = some (.type "function")) (m : mg "InvalidMenu" = some (.ref C)) : ErrMk P w K mg base "InvalidMenu" "at" C :=
  ⟨O, ⟨f1, fd, ok_i8 F O no, iC, tI, F.binds (fun _ _ _ _ _ _ us hl => match us, hl with | [_, _], _ => rfl), kb_one F fun _ _ _ _ _ _ _ _ => rfl⟩, m⟩
abbrev s_i9 : Stmt := inClass (topS 14) 0
theorem ok_i9 {f1 : Addr} {fd : FuncData} (F : Fun K "__init__" "InvalidGoals.__init__" s_i9 f1 fd) (O : XoC K C) (no : PySem.W.findIn K (.ref C) "at" = some none) : FnOk P w K mg base CX0 1 f1 fd ["self", "at"] (spErr1 C "at") := by
  refine F.ok (⟨rfl, rfl, rfl, by decide +kernel, rfl, by decide +kernel, by decide +kernel⟩ : FnScope ["self", "at"] ["self", "at"] (defScope s_i9)) (fun vs H Q E h => ?_) (fun cdv A outer s H vs Q E hr h => ?_)
  · obtain ⟨_, _, rfl, _⟩ := h
    rfl
  · obtain ⟨a, y, rfl, e, k⟩ := h
    exact ⟨_, pss_one (ps_set1 (pv 0) (pv 1)), _, rfl, _, rfl, a, C, rfl, O, no, e, k⟩
theorem mk_i9 {f1 : Addr} {fd : FuncData} (F : Fun K "__init__" "InvalidGoals.__init__" s_i9 f1 fd) (O : XoC K C) (no : PySem.W.findIn K (.ref C) "at" = some none) (iC : PySem.W.findIn K (.ref C) "__init__" = some (some (.ref f1))) (tI : PySem.W.typeIn K (.ref f1) = some (.type "function")) (m : mg "InvalidGoals" = some (.ref C)) : ErrMk P w K mg base "InvalidGoals" "at" C :=
  ⟨O, ⟨f1, fd, ok_i9 F O no, iC, tI, F.binds (fun _ _ _ _ _ _ us hl => match us, hl with | [_, _], _ => rfl), kb_one F fun _ _ _ _ _ _ _ _ => rfl⟩, m⟩
abbrev s_i10 : Stmt := inClass (topS 16) 0
theorem ok_i10 {f1 : Addr} {fd : FuncData} (F : Fun K "__init__" "Refused.__init__" s_i10 f1 fd) (O : XoC K C) (no : PySem.W.findIn K (.ref C) "at" = some none) : FnOk P w K mg base CX0 1 f1 fd ["self", "at"] (spErr1 C "at") := by
  refine F.ok (⟨rfl, rfl, rfl, by decide +kernel, rfl, by decide +kernel, by decide +kernel⟩ : FnScope ["self", "at"] ["self", "at"] (defScope s_i10)) (fun vs H Q E h => ?_) (fun cdv A outer s H vs Q E hr h => ?_)
  · obtain ⟨_, _, rfl, _⟩ := h
    rfl
  · obtain ⟨a, y, rfl, e, k⟩ := h
    exact ⟨_, pss_one (ps_set1 (pv 0) (pv 1)), _, rfl, _, rfl, a, C, rfl, O, no, e, k⟩
theorem mk_i10 {f1 : Addr} {fd : FuncData} (F : Fun K "__init__" "Refused.__init__" s_i10 f1 fd) (O : XoC K C) (no : PySem.W.findIn K (.ref C) "at" = some none) (iC : PySem.W.findIn K (.ref C) "__init__" = some (some (.ref f1))) (tI : PySem.W.typeIn K (.ref f1) = some (.type "function")) (m : mg "Refused" = some (.ref C)) : ErrMk P w K mg base "Refused" "at" C :=
  ⟨O, ⟨f1, fd, ok_i10 F O no, iC, tI, F.binds (fun _ _ _ _ _ _ us hl => match us, hl with | [_, _], _ => rfl), kb_one F fun _ _ _ _ _ _ _ _ => rfl⟩, m⟩
abbrev s_i11 : Stmt := inClass (topS 6) 0
theorem ok_i11 {f1 : Addr} {fd : FuncData} (F : Fun K "__init__" "NeverGoes.__init__" s_i11 f1 fd) (O : XoC K C) (no : PySem.W.findIn K (.ref C) "ring" = some none) : FnOk P w K mg base CX0 1 f1 fd ["self", "ring"] (spErr1 C "ring") := by
  refine F.ok (⟨rfl, rfl, rfl, by decide +kernel, rfl, by decide +kernel, by decide +kernel⟩ : FnScope ["self", "ring"] ["self", "ring"] (defScope s_i11)) (fun vs H Q E h => ?_) (fun cdv A outer s H vs Q E hr h => ?_)
  · obtain ⟨_, _, rfl, _⟩ := h
    rfl
  · obtain ⟨a, y, rfl, e, k⟩ := h
    exact ⟨_, pss_one (ps_set1 (pv 0) (pv 1)), _, rfl, _, rfl, a, C, rfl, O, no, e, k⟩
theorem mk_i11 {f1 : Addr} {fd : FuncData} (F : Fun K "__init__" "NeverGoes.__init__" s_i11 f1 fd) (O : XoC K C) (no : PySem.W.findIn K (.ref C) "ring" = some none) (iC : PySem.W.findIn K (.ref C) "__init__" = some (some (.ref f1))) (tI : PySem.W.typeIn K (.ref f1) = some (.type "function")) (m : mg "NeverGoes" = some (.ref C)) : ErrMk P w K mg base "NeverGoes" "ring" C :=
  ⟨O, ⟨f1, fd, ok_i11 F O no, iC, tI, F.binds (fun _ _ _ _ _ _ us hl => match us, hl with | [_, _], _ => rfl), kb_one F fun _ _ _ _ _ _ _ _ => rfl⟩, m⟩
abbrev s_i15 : Stmt := inClass (topS 17) 0
theorem ok_i15 {f1 : Addr} {fd : FuncData} (F : Fun K "__init__" "NoPlace.__init__" s_i15 f1 fd) (O : XoC K C) (no : PySem.W.findIn K (.ref C) "name" = some none) : FnOk P w K mg base CX0 1 f1 fd ["self", "name"] (spErr1 C "name") := by
  refine F.ok (⟨rfl, rfl, rfl, by decide +kernel, rfl, by decide +kernel, by decide +kernel⟩ : FnScope ["self", "name"] ["self", "name"] (defScope s_i15)) (fun vs H Q E h => ?_) (fun cdv A outer s H vs Q E hr h => ?_)
  · obtain ⟨_, _, rfl, _⟩ := h
    rfl
  · obtain ⟨a, y, rfl, e, k⟩ := h
    exact ⟨_, pss_one (ps_set1 (pv 0) (pv 1)), _, rfl, _, rfl, a, C, rfl, O, no, e, k⟩
theorem mk_i15 {f1 : Addr} {fd : FuncData} (F : Fun K "__init__" "NoPlace.__init__" s_i15 f1 fd) (O : XoC K C) (no : PySem.W.findIn K (.ref C) "name" = some none) (iC : PySem.W.findIn K (.ref C) "__init__" = some (some (.ref f1))) (tI : PySem.W.typeIn K (.ref f1) = some (.type "function")) (m : mg "NoPlace" = some (.ref C)) : ErrMk P w K mg base "NoPlace" "name" C :=
  ⟨O, ⟨f1, fd, ok_i15 F O no, iC, tI, F.binds (fun _ _ _ _ _ _ us hl => match us, hl with | [_, _], _ => rfl), kb_one F fun _ _ _ _ _ _ _ _ => rfl⟩, m⟩
end
section
variable {P : Program} {w : World} {K : PySem.W.Frag} {mg : Str → Option Value} {base : Heap} {c : Nat → Addr} {W : Addr}
def spLaw (K : PySem.W.Frag) : Sp := fun vs H Q _ => ∃ (a : Addr) (ns : List Int), vs = [.ref a] ∧ SqL K H a (ns.map V.int) ∧ ns.length ≤ 63 ∧ ∀ H', Q (.bl true) H'
set_option maxHeartbeats 8000000 in
theorem ok_law {fa : Addr} {fd : FuncData} (F : Fun K "law" "law" s_law fa fd) (T : Txt mg) (Z : Kinds K c W) (G : Fields K c) (M : Makes P w K mg base c) (b12 : Bare K mg "InvalidContract" (c 12)) (b13 : Bare K mg "InvalidChoice" (c 13)) (b14 : Bare K mg "InvalidCommand" (c 14)) (bW : Bare K mg "WaitError" W)
    (o_law_box : Own P w K mg base "_law_box" 1 ["script", "k"] (spBox K)) (o_law_take : Own P w K mg base "_law_take" 1 ["box", "many"] spTake) (o_law_pick : Own P w K mg base "_law_pick" 2 ["box", "some"] spPick)
    (o_law_kinds : Own P w K mg base "_law_kinds" 1 ["made"] (spKinds K c)) (o_law_is_own : Own P w K mg base "_law_is_own" 2 ["made", "spot"] (spOwnE c)) : FnG P w K mg base 7 fa fd ["script"] (spLaw K) := by
  refine okG F sc_law (fun vs H Q E h => ?_) (fun cdv A outer s H vs Q E hr gd h => ?_)
  · obtain ⟨_, _, rfl, _⟩ := h
    rfl
  · obtain ⟨a, ns, rfl, hS, hlen, k⟩ := h
    refine ⟨_, (pss_cons (ps_for PassesOwn.never rfl (pi_range1 (by rfl) T.range (pa_cons (pe_callB (call_max2 rfl) (by rfl) T.max (by decide +kernel) (pa_cons pe_int (pa_cons (pe_callB (call_min2 rfl) (by rfl) T.min (by decide +kernel) (pa_cons pe_int (pa_cons (pe_callB call_len_seq (by rfl) T.len PySem.boot_len (pa_cons (pv 0) pa_nil)) pa_nil))) pa_nil))) pa_nil)) (pg_name (i := 1) sc_law.nd rfl (Or.inl rfl))
      (pss_cons (ps_set (i := 2) sc_law.nd rfl (Or.inl rfl) (pe_own o_law_box (hr.mono (by decide)) (pa_cons (pv 0) (pa_cons (pv 1) pa_nil))))
      (pss_cons (blk_1 o_law_take o_law_pick hr) (pss_cons (blk_2 M hr) (pss_cons (blk_3 M hr) (pss_cons (blk_4 M hr) (pss_cons (blk_5 M hr) (pss_cons (blk_6 M hr) (pss_cons (blk_7 M hr) (pss_cons (blk_8 M hr) (pss_cons (blk_9 hr) (pss_cons (blk_10 hr)
      (pss_cons (blk_11 T Z G hr gd) (pss_cons (blk_12 T Z G hr gd) (pss_cons (blk_13 T Z G hr gd) (pss_cons (blk_14 T b12 b13 b14 o_law_is_own hr) (pss_cons (blk_15 o_law_is_own hr) (pss_one (blk_16 T Z bW o_law_kinds hr)))))))))))))))))))
  (pss_one (ps_ret pe_bl))), ?_⟩
    walk_at "s"
    have hN : 1 ≤ (if (if ((ns.map V.int).length : Int) < 3 then ((ns.map V.int).length : Int) else 3) > 1 then (if ((ns.map V.int).length : Int) < 3 then ((ns.map V.int).length : Int) else 3) else 1) ∧ (if (if ((ns.map V.int).length : Int) < 3 then ((ns.map V.int).length : Int) else 3) > 1 then (if ((ns.map V.int).length : Int) < 3 then ((ns.map V.int).length : Int) else 3) else 1) ≤ 3 := by
      split <;> split at * <;> omega
    generalize (if (if ((ns.map V.int).length : Int) < 3 then ((ns.map V.int).length : Int) else 3) > 1 then (if ((ns.map V.int).length : Int) < 3 then ((ns.map V.int).length : Int) else 3) else 1) = N at hN ⊢
    refine ⟨by omega, by omega, for_range (lo := 0) (n := N.toNat) (fun i σ H' => ∃ y1 y2 y3 y4 y5 y6 y7 y8 y9 y10 y11, σ = [some (.ref a), y1, y2, y3, y4, y5, y6, y7, y8, y9, y10, y11] ∧ Same H H')
      ⟨none, none, none, none, none, none, none, none, none, none, none, rfl, Same.refl _⟩ ?_ ?_⟩
    · rintro i σ H0 hi ⟨y1, y2, y3, y4, y5, y6, y7, y8, y9, y10, y11, rfl, S0⟩
      rw [Int.zero_add]
      walk_at "s"
      refine ⟨a, ns, i, rfl, S0.seq hS, hlen, fun H1 b s1 nb hb1 => ?_⟩
      have hi3 : i < 3 := by omega
      refine ⟨b, rfl, hb1, fun H2 Hv th ot v x d B2 hx hd dp nth nto sv eth eot hne fth fot => ?_⟩
      have le1 : ∀ {H' : Hp} {f : Str} {xs : List V} {ys : List (Nat × V)}, EAs H' c f xs ys → ys.length ≤ 900 → xs.length ≤ 900 := fun q l => by rw [q.len]; exact l
      refine ⟨th, rfl, fun H3 p3 x3 s3 n3 e3 q3 => ?_⟩
      refine ⟨ot, p3, x3, rfl, rfl, e3, le1 q3 (Nat.le_of_ble_eq_true rfl), fun H4 pw x4 s4 n4 e4 q4 => ?_⟩
      refine ⟨th, rfl, fun H5 p5 x5 s5 n5 e5 q5 => ?_⟩
      refine ⟨th, p5, x5, rfl, rfl, e5, le1 q5 (Nat.le_of_ble_eq_true rfl), fun H6 ps x6 s6 n6 e6 q6 => ?_⟩
      refine ⟨ot, rfl, fun H7 p7 x7 s7 n7 e7 q7 => ?_⟩
      refine ⟨ot, p7, x7, rfl, rfl, e7, le1 q7 (Nat.le_of_ble_eq_true rfl), fun H8 pn x8 s8 n8 e8 q8 => ?_⟩
      refine ⟨th, ot, rfl, rfl, fun H9 pr pl xr xl s9 nr nl er el qr ql => ?_⟩
      have s34 : Same H2 H4 := s3.trans s4
      have s36 : Same H2 H6 := s34.trans (s5.trans s6)
      have s38 : Same H2 H8 := s36.trans (s7.trans s8)
      have s39 : Same H2 H9 := s38.trans s9
      have eth9 := s39 _ _ eth
      have eot9 := s39 _ _ eot
      have tw := ne_of_none (s3 _ _ eth) n4
      have ts := ne_of_none ((s34.trans s5) _ _ eth) n6
      have tn := ne_of_none ((s36.trans s7) _ _ eth) n8
      have tr := ne_of_none (s38 _ _ eth) nr
      have tl := ne_of_none (s38 _ _ eth) nl
      have ow := ne_of_none (s3 _ _ eot) n4
      have os := ne_of_none ((s34.trans s5) _ _ eot) n6
      have on := ne_of_none ((s36.trans s7) _ _ eot) n8
      have or_ := ne_of_none (s38 _ _ eot) nr
      have ol := ne_of_none (s38 _ _ eot) nl
      have s49 : Same H4 H9 := s5.trans (s6.trans (s7.trans (s8.trans s9)))
      have s69 : Same H6 H9 := s7.trans (s8.trans s9)
      have kw := ((q3.same s4).app q4).same s49
      have ks := ((q5.same s6).app q6).same s69
      have kn := ((q7.same s8).app q8).same s9
      refine ⟨th, .int (i : Int), [v], rfl, fun j e => by cases e; rfl, (fun z => nomatch z), eth9, (Nat.le_of_ble_eq_true rfl), ?_⟩
      generalize hq : upd H9 th _ = H10
      have e10 : H10 th = some (.lst [v, .int (i : Int)]) := by
        rw [← hq, upd_same]
        rfl
      have o10 : ∀ q, q ≠ th → H10 q = H9 q := fun q n => by rw [← hq, upd_ne n]
      have kw := hq ▸ kw.put (l2 := [v] ++ [V.int (i : Int)]) eth9
      have ks := hq ▸ ks.put (l2 := [v] ++ [V.int (i : Int)]) eth9
      have kn := hq ▸ kn.put (l2 := [v] ++ [V.int (i : Int)]) eth9
      have kr := hq ▸ qr.put (l2 := [v] ++ [V.int (i : Int)]) eth9
      have kl := hq ▸ ql.put (l2 := [v] ++ [V.int (i : Int)]) eth9
      have sv10 : Same Hv H10 := hq ▸ (sv.trans s39).upd1 nth
      have S10 : Same H0 H10 := hq ▸ ((B2.same s1 nb).trans s39).upd1 (s1.free fth)
      clear hq
      have eot10 : H10 ot = some (.lst [.str "x", .int (d : Int)]) := (o10 _ hne.symm).trans eot9
      refine ⟨ot, .str "y", _, rfl, (fun j z => nomatch z), fun _ => rfl, eot10, (Nat.le_of_ble_eq_true rfl), ?_⟩
      generalize hq : upd H10 ot _ = H11
      have e11 : H11 ot = some (.lst [.str "x", .int (d : Int), .str "y"]) := by
        rw [← hq, upd_same]
        rfl
      have o11 : ∀ q, q ≠ ot → H11 q = H10 q := fun q n => by rw [← hq, upd_ne n]
      have kw := hq ▸ kw.put (l2 := [V.str "x", V.int (d : Int)] ++ [V.str "y"]) eot10
      have ks := hq ▸ ks.put (l2 := [V.str "x", V.int (d : Int)] ++ [V.str "y"]) eot10
      have kn := hq ▸ kn.put (l2 := [V.str "x", V.int (d : Int)] ++ [V.str "y"]) eot10
      have kr := hq ▸ kr.put (l2 := [V.str "x", V.int (d : Int)] ++ [V.str "y"]) eot10
      have kl := hq ▸ kl.put (l2 := [V.str "x", V.int (d : Int)] ++ [V.str "y"]) eot10
      have sv11 : Same Hv H11 := hq ▸ sv10.upd1 nto
      have S11 : Same H0 H11 := hq ▸ S10.upd1 (s1.free fot)
      clear hq
      have F11 : Full K c H11 th ot pw ps pn pr pl (x3 ++ x4) (x5 ++ x6) (x7 ++ x8) xr xl x i d :=
        ⟨⟨(o11 _ ow.symm).trans ((o10 _ tw.symm).trans (s49 _ _ e4)), (o11 _ os.symm).trans ((o10 _ ts.symm).trans (s69 _ _ e6)), (o11 _ on.symm).trans ((o10 _ tn.symm).trans (s9 _ _ e8)),
          (o11 _ or_.symm).trans ((o10 _ tr.symm).trans er), (o11 _ ol.symm).trans ((o10 _ tl.symm).trans el), kw, ks, kn, kr, kl⟩,
          .lst (SqL.of ((o11 _ hne).trans e10)) (.cons (dp_same sv11 dp) (.cons (.int _) .nil)), .lst (SqL.of e11) (.cons (.str _) (.cons (.int _) (.cons (.str _) .nil))), hx, hi3, hd⟩
      have S : ∀ y10 y11, Sl [some (.ref a), some (.int (i : Int)), some (.ref b), some (.ref th), some (.ref ot), some (.ref pw), some (.ref ps), some (.ref pn), some (.ref pr), some (.ref pl), y10, y11] th ot pw ps pn pr pl := fun y10 y11 =>
        ⟨Nat.le_of_ble_eq_true rfl, rfl, rfl, rfl, rfl, rfl, rfl, rfl⟩
      refine ⟨th, ot, pw, ps, pn, pr, pl, _, _, _, _, _, x, i, d, S _ _, F11, fun H12 s12 => ?_⟩
      refine ⟨th, ot, pw, ps, pn, pr, pl, _, _, _, _, _, x, i, d, S _ _, F11.same s12, fun H13 s13 => ?_⟩
      refine ⟨th, ot, pw, ps, pn, pr, pl, _, _, _, _, _, x, i, d, S _ _, (F11.same s12).same s13, fun H14 s14 => ?_⟩
      have s114 := s12.trans (s13.trans s14)
      have K14 := (F11.same s114).kp
      refine ⟨th, ot, pw, ps, pn, pr, pl, _, _, _, _, _, S _ _, K14, fun H15 z10 z11 s15 => ?_⟩
      refine ⟨th, ot, pw, ps, pn, pr, pl, _, _, _, _, _, S _ _, K14.same s15, fun H16 s16 => ?_⟩
      refine fun H17 s17 => ?_
      exact ⟨_, _, _, _, _, _, _, _, _, _, _, rfl, S0.trans (S11.trans (s114.trans (s15.trans (s16.trans s17))))⟩
    · rintro σ H0 ⟨y1, y2, y3, y4, y5, y6, y7, y8, y9, y10, y11, rfl, S0⟩
      exact k _
end
end My

set_option linter.all false
namespace My
open PySem PySem.Spec PyProof.Rows L2 MyG MyX
section
variable {K : PySem.W.Frag} {h : Heap} {mg : Str → Option Value}
theorem df_mk {x : Str} {st : Stmt} {ps : List Str} {f : Addr} {oc : Value} {od an : Option Addr} {osl : Array (Option Value)} {kV doc pm cdv ct : Value} (X : K.In h) (G : h.Ns mainGlobals mg)
    (a : PySem.W.nsIn K mainGlobals x = some (some (.ref f)))
    (l : K.lookup f = some ⟨oc, od, .func (PySem.W.fnOf x x (defArgs st) (defBody st) (defScope st) .none kV doc pm an cdv ct), osl⟩) (c : PySem.W.codeIn K cdv x = true) (k : PySem.W.keepIn K (.ref f) = true)
    (hb : ∀ (kV doc pm : Value) (an : Option Addr) (cdv ct : Value) (us : List Value), us.length = ps.length → bindArgs (PySem.W.fnOf x x (defArgs st) (defBody st) (defScope st) .none kV doc pm an cdv ct) ⟨us, []⟩ = pure (ps.zip us)) : Df K mg x st ps :=
  ⟨f, _, fun_mk l c k, PySem.W.mg_of X G a, (fun_mk l c k).binds hb⟩
/-- what stands behind an error class over WaitError (or that class itself, or one over KeyError) -/
def tailV : List Value := [.type "ValueError", .type "Exception", .type "BaseException", .type "object"]
def tailK : List Value := [.type "KeyError", .type "LookupError", .type "Exception", .type "BaseException", .type "object"]
/-- a class of errors, as it lies: bm behind itself in its mro -/
structure ErB (K : PySem.W.Frag) (mg : Str → Option Value) (n : Str) (C : Addr) (bm : List Value) (nid : String) : Prop where
  xL : ∃ nm q N bs sn sub ab col dd k0 k1 k2 k3 k5, K.lookup C = some (excClassObj nm q C N bs bm true sn sub ab col dd k0 k1 k2 k3 k5 nid)
  X : ExcC K C
  kC : PySem.W.keepIn K (.ref C) = true
  tC : PySem.W.typeIn K (.ref C) = some (.type "type")
  m : mg n = some (.ref C)
theorem erb_mk {n : Str} {C : Addr} {bm : List Value} {nid : String} {nm q : Str} {N : Addr} {bs : List Value} {sn : List Str} {sub : List Value} {ab : Bool} {col : Option Bool} {dd : Option Addr} {k0 k1 k2 k3 k5 : Option Value} (X : K.In h) (G : h.Ns mainGlobals mg)
    (aC : PySem.W.nsIn K mainGlobals n = some (some (.ref C))) (xL : K.lookup C = some (excClassObj nm q C N bs bm true sn sub ab col dd k0 k1 k2 k3 k5 nid))
    (hg : PySem.W.findIn K (.ref C) "__getattribute__" = some (some (.builtin "BaseException.__getattribute__"))) (hk : PySem.W.findIn K (.ref C) "__getattr__" = some none) (hs : PySem.W.subIn K (.ref C) (.type "BaseException") = some true) (hd : PySem.W.hasDictIn K C = true)
    (ha : PySem.W.findIn K (.ref C) "__class__" = some (some (.builtin "object.__class__"))) (hn : PySem.W.specialIn K (.builtin "object.__class__") "__get__" = some (some (.builtin "getset_descriptor.__get__"))) (ht : PySem.W.takesIn K (.builtin "object.__class__") = some true) (hm : PySem.W.mroIn K C (.type "object") = some true)
    (kC : PySem.W.keepIn K (.ref C) = true) (tC : PySem.W.typeIn K (.ref C) = some (.type "type")) : ErB K mg n C bm nid :=
  ⟨⟨nm, q, N, bs, sn, sub, ab, col, dd, k0, k1, k2, k3, k5, xL⟩, ⟨hg, hk, hs, hd, ha, hn, ht, hm⟩, kC, tC, PySem.W.mg_of X G aC⟩
theorem ErB.cls {n : Str} {C : Addr} {bm : List Value} {nid : String} (B : ErB K mg n C bm nid) : ∃ cd, PySem.W.clsIn K C = some cd ∧ cd.mro = .ref C :: bm := by
  obtain ⟨nm, q, N, bs, sn, sub, ab, col, dd, k0, k1, k2, k3, k5, xL⟩ := B.xL
  unfold PySem.W.clsIn
  rw [xL]
  exact ⟨_, rfl, rfl⟩
theorem ErB.sub {n : Str} {C : Addr} {bm : List Value} {nid : String} (B : ErB K mg n C bm nid) (v : Value) : PySem.W.subIn K (.ref C) v = some ((Value.ref C :: bm).contains v) := by
  obtain ⟨cd, e, m⟩ := B.cls
  show PySem.W.mroIn K C v = _
  unfold PySem.W.mroIn
  rw [e, Option.bind_some, m, if_neg (show ¬ (Value.ref C :: bm).isEmpty = true from Bool.false_ne_true)]
/-- isinstance of an error of one class, asked for another class -/
theorem ErB.kit {n n2 : Str} {C D : Addr} {bm bm2 : List Value} {nid nid2 : String} (B : ErB K mg n C bm nid) (B2 : ErB K mg n2 D bm2 nid2) : PySem.W.kitOne K (.ref C) (.ref D) = some ((Value.ref C :: bm).contains (.ref D)) := by
  unfold PySem.W.kitOne
  by_cases e : C = D
  · subst e
    rw [if_pos (by simp)]
    simp
  · rw [if_neg (fun q => e (Value.ref.inj (beq_iff_eq.mp q)))]
    obtain ⟨cd, e2, _⟩ := B2.cls
    show (if ((PySem.W.clsIn K D).isSome && PySem.W.typeIn K (.ref D) == some (.type "type")) = true then PySem.W.subIn K (.ref C) (.ref D) else none) = _
    rw [if_pos (by rw [e2, B2.tC]; rfl), B.sub]
theorem ErB.kitTy {n : Str} {C : Addr} {bm : List Value} {nid : String} (B : ErB K mg n C bm nid) {x : String} (m : PySem.W.kitMeta x = true) : PySem.W.kitOne K (.ref C) (.type x) = some ((Value.ref C :: bm).contains (.type x)) := by
  unfold PySem.W.kitOne
  rw [if_neg (fun q => by cases beq_iff_eq.mp q)]
  show (if PySem.W.kitMeta x = true then PySem.W.subIn K (.ref C) (.type x) else none) = _
  rw [if_pos m, B.sub]
theorem baseV (W : Addr) : BaseIn "ValueError" "ValueError.__new__" "ValueError.__init__" [.type "ValueError", .type "Exception", .type "BaseException", .type "object"] (.ref W :: tailV) :=
  ⟨PySem.F.excBase_ValueError, by rw [List.contains_cons, show (tailV.contains (Value.type "ValueError")) = true by decide +kernel, Bool.or_true], by rw [List.contains_cons]; rfl, by rw [List.contains_cons]; rfl⟩
theorem baseK : BaseIn "LookupError" "LookupError.__new__" "LookupError.__init__" [.type "LookupError", .type "Exception", .type "BaseException", .type "object"] tailK :=
  ⟨PySem.F.excBase_LookupError, by decide +kernel, by decide +kernel, by decide +kernel⟩
theorem mroV (W : Addr) : MroIn (.ref W :: tailV) := MroIn.cons ⟨rfl, by decide +kernel, fun v => PySem.F.store_ValueError.passes v⟩
theorem mroK : MroIn tailK := ⟨rfl, by decide +kernel, fun v => by kernel_rfl⟩
/-- .. with an own __init__ that sets the field f -/
structure ErI (K : PySem.W.Frag) (mg : Str → Option Value) (n f qual : Str) (st : Stmt) (C : Addr) (bm : List Value) (nid : String) : Prop where
  B : ErB K mg n C bm nid
  sa : PySem.W.findIn K (.ref C) "__setattr__" = some (some (.builtin "object.__setattr__"))
  nf : PySem.W.findIn K (.ref C) f = some none
  ex : ∃ f1 fd, Fun K "__init__" qual st f1 fd ∧ PySem.W.findIn K (.ref C) "__init__" = some (some (.ref f1)) ∧ PySem.W.typeIn K (.ref f1) = some (.type "function")
theorem eri_mk {n f qual : Str} {st : Stmt} {C f1 : Addr} {bm : List Value} {nid : String} {oc : Value} {od an : Option Addr} {osl : Array (Option Value)} {kV doc pm cdv ct : Value} (B : ErB K mg n C bm nid) (sa : PySem.W.findIn K (.ref C) "__setattr__" = some (some (.builtin "object.__setattr__"))) (nf : PySem.W.findIn K (.ref C) f = some none)
    (a1 : PySem.W.findIn K (.ref C) "__init__" = some (some (.ref f1))) (t1 : PySem.W.typeIn K (.ref f1) = some (.type "function"))
    (l : K.lookup f1 = some ⟨oc, od, .func (PySem.W.fnOf "__init__" qual (defArgs st) (defBody st) (defScope st) .none kV doc pm an cdv ct), osl⟩) (c : PySem.W.codeIn K cdv qual = true) (k : PySem.W.keepIn K (.ref f1) = true) : ErI K mg n f qual st C bm nid :=
  ⟨B, sa, nf, f1, _, fun_mk l c k, a1, t1⟩
theorem ErI.xo {n f qual : Str} {st : Stmt} {C : Addr} {bm bmB : List Value} {B nid iid : String} (E : ErI K mg n f qual st C bm nid) (Y : BaseIn B nid iid bmB bm) (m : MroIn bm) : XoC K C := by
  obtain ⟨nm, q, N, bs, sn, sub, ab, col, dd, k0, k1, k2, k3, k5, xL⟩ := E.B.xL
  exact ⟨⟨nid, iid, B, bmB, bm, nm, q, N, bs, sn, sub, ab, col, dd, k0, k1, k2, k3, k5, xL, Y, m⟩, E.sa, E.B.kC⟩
end
/-- the sixteen by number -/
def cOf (l : List Addr) (i : Nat) : Addr := l.getD i 0
theorem c_inj {W : Addr} {l : List Addr} (nd : (W :: l).Nodup) {i j : Nat} (hi : i < l.length) (hj : j < l.length) (e : cOf l i = cOf l j) : i = j := by
  have n2 := (List.nodup_cons.mp nd).2
  unfold cOf at e
  rw [List.getD_eq_getElem?_getD, List.getD_eq_getElem?_getD, List.getElem?_eq_getElem hi, List.getElem?_eq_getElem hj] at e
  exact (List.getElem_inj n2).mp e
theorem c_ne {W : Addr} {l : List Addr} (nd : (W :: l).Nodup) {i : Nat} (hi : i < l.length) : cOf l i ≠ W := fun e => by
  have n1 := (List.nodup_cons.mp nd).1
  apply n1
  rw [← e]
  unfold cOf
  rw [List.getD_eq_getElem?_getD, List.getElem?_eq_getElem hi]
  exact List.getElem_mem hi
/-- what a class's mro holds of the sixteen -/
theorem has_v (C D W : Addr) (h : D ≠ W) : (Value.ref C :: .ref W :: tailV).contains (.ref D) = decide (C = D) := by
  rw [List.contains_cons, List.contains_cons, show (tailV.contains (Value.ref D)) = false from rfl]
  have e1 : (Value.ref D == Value.ref W) = false := beq_eq_false_iff_ne.mpr fun q => h (Value.ref.inj q)
  rw [e1, Bool.or_false, Bool.or_false, Bool.eq_iff_iff, beq_iff_eq, decide_eq_true_iff]
  exact ⟨fun q => (Value.ref.inj q).symm, fun q => by rw [q]⟩
theorem has_k (C D : Addr) : (Value.ref C :: tailK).contains (.ref D) = decide (C = D) := by
  rw [List.contains_cons, show (tailK.contains (Value.ref D)) = false from rfl, Bool.or_false, Bool.eq_iff_iff, beq_iff_eq, decide_eq_true_iff]
  exact ⟨fun q => (Value.ref.inj q).symm, fun q => by rw [q]⟩
theorem has_w (D W : Addr) (h : D ≠ W) : (Value.ref W :: tailV).contains (.ref D) = false := by
  rw [List.contains_cons, show (tailV.contains (Value.ref D)) = false from rfl, Bool.or_false]
  exact beq_eq_false_iff_ne.mpr fun q => h (Value.ref.inj q)
theorem all_ok {P : Program} {w : World} {K : PySem.W.Frag} {base : Heap} {mg : Str → Option Value} {fa W C0 C1 C2 C3 C4 C5 C6 C7 C8 C9 C10 C11 C12 C13 C14 C15 : Addr} (E0 : ErI K mg "InvalidRow" "word" "InvalidRow.__init__" s_i0 C0 (.ref W :: tailV) "ValueError.__new__") (E1 : ErI K mg "InvalidModule" "word" "InvalidModule.__init__" s_i1 C1 (.ref W :: tailV) "ValueError.__new__") (E2 : ErI K mg "InvalidTally" "word" "InvalidTally.__init__" s_i2 C2 (.ref W :: tailV) "ValueError.__new__") (E3 : ErI K mg "InvalidHouse" "at" "InvalidHouse.__init__" s_i3 C3 (.ref W :: tailV) "ValueError.__new__") (E4 : ErI K mg "InvalidText" "at" "InvalidText.__init__" s_i4 C4 (.ref W :: tailV) "ValueError.__new__") (E5 : ErI K mg "InvalidArrivals" "at" "InvalidArrivals.__init__" s_i5 C5 (.ref W :: tailV) "ValueError.__new__") (E6 : ErI K mg "InvalidWishes" "at" "InvalidWishes.__init__" s_i6 C6 (.ref W :: tailV) "ValueError.__new__") (E7 : ErI K mg "InvalidLog" "at" "InvalidLog.__init__" s_i7 C7 (.ref W :: tailV) "ValueError.__new__") (E8 : ErI K mg "InvalidMenu" "at" "InvalidMenu.__init__" s_i8 C8 (.ref W :: tailV) "ValueError.__new__") (E9 : ErI K mg "InvalidGoals" "at" "InvalidGoals.__init__" s_i9 C9 (.ref W :: tailV) "ValueError.__new__") (E10 : ErI K mg "Refused" "at" "Refused.__init__" s_i10 C10 (.ref W :: tailV) "ValueError.__new__") (E11 : ErI K mg "NeverGoes" "ring" "NeverGoes.__init__" s_i11 C11 (.ref W :: tailV) "ValueError.__new__") (E12 : ErB K mg "InvalidContract" C12 (.ref W :: tailV) "ValueError.__new__") (x12 : PySem.W.excIn K C12 [.type "ValueError", .type "Exception", .type "BaseException", .type "object"] "ValueError.__new__" = true) (E13 : ErB K mg "InvalidChoice" C13 (.ref W :: tailV) "ValueError.__new__") (x13 : PySem.W.excIn K C13 [.type "ValueError", .type "Exception", .type "BaseException", .type "object"] "ValueError.__new__" = true) (E14 : ErB K mg "InvalidCommand" C14 (.ref W :: tailV) "ValueError.__new__") (x14 : PySem.W.excIn K C14 [.type "ValueError", .type "Exception", .type "BaseException", .type "object"] "ValueError.__new__" = true) (E15 : ErI K mg "NoPlace" "name" "NoPlace.__init__" s_i15 C15 tailK "LookupError.__new__") (EW : ErB K mg "WaitError" W tailV "ValueError.__new__") (xW : PySem.W.excIn K W [.type "ValueError", .type "Exception", .type "BaseException", .type "object"] "ValueError.__new__" = true) (nd : (W :: [C0, C1, C2, C3, C4, C5, C6, C7, C8, C9, C10, C11, C12, C13, C14, C15]).Nodup) (dlawbox : Df K mg "_law_box" s_law_box ["script", "k"]) (dlawtake : Df K mg "_law_take" s_law_take ["box", "many"]) (dlawpick : Df K mg "_law_pick" s_law_pick ["box", "some"]) (dlawkinds : Df K mg "_law_kinds" s_law_kinds ["made"]) (dlawisown : Df K mg "_law_is_own" s_law_is_own ["made", "spot"]) (T : Txt mg) {fd : FuncData} (F : Fun K "law" "law" s_law fa fd) : FnG P w K mg base 7 fa fd ["script"] (spLaw K) := by
  obtain ⟨c, ec⟩ : ∃ c, c = cOf [C0, C1, C2, C3, C4, C5, C6, C7, C8, C9, C10, C11, C12, C13, C14, C15] := ⟨_, rfl⟩
  have y0 : c 0 = C0 := by rw [ec]; rfl
  have y1 : c 1 = C1 := by rw [ec]; rfl
  have y2 : c 2 = C2 := by rw [ec]; rfl
  have y3 : c 3 = C3 := by rw [ec]; rfl
  have y4 : c 4 = C4 := by rw [ec]; rfl
  have y5 : c 5 = C5 := by rw [ec]; rfl
  have y6 : c 6 = C6 := by rw [ec]; rfl
  have y7 : c 7 = C7 := by rw [ec]; rfl
  have y8 : c 8 = C8 := by rw [ec]; rfl
  have y9 : c 9 = C9 := by rw [ec]; rfl
  have y10 : c 10 = C10 := by rw [ec]; rfl
  have y11 : c 11 = C11 := by rw [ec]; rfl
  have y12 : c 12 = C12 := by rw [ec]; rfl
  have y13 : c 13 = C13 := by rw [ec]; rfl
  have y14 : c 14 = C14 := by rw [ec]; rfl
  have y15 : c 15 = C15 := by rw [ec]; rfl
  have inj : ∀ {i j : Nat}, i < 16 → j < 16 → c i = c j → i = j := fun hi hj e => by
    rw [ec] at e
    exact c_inj nd hi hj e
  have ne : ∀ {i : Nat}, i < 16 → c i ≠ W := fun hi => by
    rw [ec]
    exact c_ne nd hi
  clear ec nd
  subst y0 y1 y2 y3 y4 y5 y6 y7 y8 y9 y10 y11 y12 y13 y14 y15
  have XX : ∀ i, i < 16 → ExcC K (c i) := fun i hi => match i, hi with
    | 0, _ => E0.B.X
    | 1, _ => E1.B.X
    | 2, _ => E2.B.X
    | 3, _ => E3.B.X
    | 4, _ => E4.B.X
    | 5, _ => E5.B.X
    | 6, _ => E6.B.X
    | 7, _ => E7.B.X
    | 8, _ => E8.B.X
    | 9, _ => E9.B.X
    | 10, _ => E10.B.X
    | 11, _ => E11.B.X
    | 12, _ => E12.X
    | 13, _ => E13.X
    | 14, _ => E14.X
    | 15, _ => E15.B.X
    | _ + 16, h => absurd h (by omega)
  have NX : ∀ j, j < 16 → ∃ n bm nid, ErB K mg n (c j) bm nid := fun j hj => match j, hj with
    | 0, _ => ⟨_, _, _, E0.B⟩
    | 1, _ => ⟨_, _, _, E1.B⟩
    | 2, _ => ⟨_, _, _, E2.B⟩
    | 3, _ => ⟨_, _, _, E3.B⟩
    | 4, _ => ⟨_, _, _, E4.B⟩
    | 5, _ => ⟨_, _, _, E5.B⟩
    | 6, _ => ⟨_, _, _, E6.B⟩
    | 7, _ => ⟨_, _, _, E7.B⟩
    | 8, _ => ⟨_, _, _, E8.B⟩
    | 9, _ => ⟨_, _, _, E9.B⟩
    | 10, _ => ⟨_, _, _, E10.B⟩
    | 11, _ => ⟨_, _, _, E11.B⟩
    | 12, _ => ⟨_, _, _, E12⟩
    | 13, _ => ⟨_, _, _, E13⟩
    | 14, _ => ⟨_, _, _, E14⟩
    | 15, _ => ⟨_, _, _, E15.B⟩
    | _ + 16, h => absurd h (by omega)
  have VX : ∀ j, j < 15 → ∃ n, ErB K mg n (c j) (.ref W :: tailV) "ValueError.__new__" := fun j hj => match j, hj with
    | 0, _ => ⟨_, E0.B⟩
    | 1, _ => ⟨_, E1.B⟩
    | 2, _ => ⟨_, E2.B⟩
    | 3, _ => ⟨_, E3.B⟩
    | 4, _ => ⟨_, E4.B⟩
    | 5, _ => ⟨_, E5.B⟩
    | 6, _ => ⟨_, E6.B⟩
    | 7, _ => ⟨_, E7.B⟩
    | 8, _ => ⟨_, E8.B⟩
    | 9, _ => ⟨_, E9.B⟩
    | 10, _ => ⟨_, E10.B⟩
    | 11, _ => ⟨_, E11.B⟩
    | 12, _ => ⟨_, E12⟩
    | 13, _ => ⟨_, E13⟩
    | 14, _ => ⟨_, E14⟩
    | _ + 15, h => absurd h (by omega)
  have EK := E15.B
  have dec : ∀ {i j : Nat}, i < 16 → j < 16 → decide (c i = c j) = decide (i = j) := fun hi hj => decide_eq_decide.mpr ⟨inj hi hj, fun e => by rw [e]⟩
  have kMV : PySem.W.kitMeta "ValueError" = true := by decide +kernel
  have kMK : PySem.W.kitMeta "KeyError" = true := by decide +kernel
  have Z : Kinds K c W := {
    X := XX
    XW := EW.X
    k := fun i j hi hj => by
      obtain ⟨n2, bm2, nid2, B2⟩ := NX j hj
      by_cases h15 : i < 15
      · obtain ⟨n, B⟩ := VX i h15
        rw [B.kit B2, has_v _ _ _ (ne hj), dec hi hj]
      · obtain rfl : i = 15 := by omega
        rw [EK.kit B2, has_k, dec hi hj]
    kW := fun i hi => by
      by_cases h15 : i < 15
      · obtain ⟨n, B⟩ := VX i h15
        rw [B.kit EW, decide_eq_true h15, List.contains_cons, List.contains_cons]
        simp
      · obtain rfl : i = 15 := by omega
        rw [EK.kit EW, has_k, decide_eq_false (ne hi)]
        rfl
    kV := fun i hi => by
      by_cases h15 : i < 15
      · obtain ⟨n, B⟩ := VX i h15
        rw [B.kitTy kMV, decide_eq_true h15, List.contains_cons, List.contains_cons, show (tailV.contains (Value.type "ValueError")) = true by decide +kernel, Bool.or_true, Bool.or_true]
      · obtain rfl : i = 15 := by omega
        rw [EK.kitTy kMV, List.contains_cons, show (tailK.contains (Value.type "ValueError")) = false by decide +kernel, Bool.or_false]
        rfl
    kK := fun i hi => by
      by_cases h15 : i < 15
      · obtain ⟨n, B⟩ := VX i h15
        rw [B.kitTy kMK, decide_eq_false (by omega), List.contains_cons, List.contains_cons, show (tailV.contains (Value.type "KeyError")) = false by decide +kernel, Bool.or_false]
        rfl
      · obtain rfl : i = 15 := by omega
        rw [EK.kitTy kMK, List.contains_cons, show (tailK.contains (Value.type "KeyError")) = true by decide +kernel, Bool.or_true]
        rfl
    wk := fun j hj => by
      obtain ⟨n2, bm2, nid2, B2⟩ := NX j hj
      rw [EW.kit B2, has_w _ _ (ne hj)]
    wV := by
      rw [EW.kitTy kMV, List.contains_cons, show (tailV.contains (Value.type "ValueError")) = true by decide +kernel, Bool.or_true] }
  have N : Named mg c W := ⟨E0.B.m, E1.B.m, E2.B.m, E3.B.m, E4.B.m, E5.B.m, E6.B.m, E7.B.m, E8.B.m, E9.B.m, E10.B.m, E11.B.m, E12.m, E13.m, E14.m, E15.B.m, EW.m⟩
  have G : Fields K c := {
    w := fun i hi => match i, hi with
      | 0, _ => E0.nf
      | 1, _ => E1.nf
      | 2, _ => E2.nf
      | _ + 3, h => absurd h (by omega)
    s := fun i lo hi => match i, lo, hi with
      | 3, _, _ => E3.nf
      | 4, _, _ => E4.nf
      | 5, _, _ => E5.nf
      | 6, _, _ => E6.nf
      | 7, _, _ => E7.nf
      | 8, _, _ => E8.nf
      | 9, _, _ => E9.nf
      | 10, _, _ => E10.nf
      | 0, h, _ => absurd h (by omega)
      | 1, h, _ => absurd h (by omega)
      | 2, h, _ => absurd h (by omega)
      | _ + 11, _, h => absurd h (by omega)
    r := E11.nf
    l := E15.nf }
  have M : Makes P w K mg base c := {
    m0 := by
      obtain ⟨f1, fd1, F1, a1, t1⟩ := E0.ex
      exact mk_i0 F1 (E0.xo (baseV W) (mroV W)) E0.nf a1 t1 E0.B.m
    m1 := by
      obtain ⟨f1, fd1, F1, a1, t1⟩ := E1.ex
      exact mk_i1 F1 (E1.xo (baseV W) (mroV W)) E1.nf a1 t1 E1.B.m
    m2 := by
      obtain ⟨f1, fd1, F1, a1, t1⟩ := E2.ex
      exact mk_i2 F1 (E2.xo (baseV W) (mroV W)) E2.nf a1 t1 E2.B.m
    m3 := by
      obtain ⟨f1, fd1, F1, a1, t1⟩ := E3.ex
      exact mk_i3 F1 (E3.xo (baseV W) (mroV W)) E3.nf a1 t1 E3.B.m
    m4 := by
      obtain ⟨f1, fd1, F1, a1, t1⟩ := E4.ex
      exact mk_i4 F1 (E4.xo (baseV W) (mroV W)) E4.nf a1 t1 E4.B.m
    m5 := by
      obtain ⟨f1, fd1, F1, a1, t1⟩ := E5.ex
      exact mk_i5 F1 (E5.xo (baseV W) (mroV W)) E5.nf a1 t1 E5.B.m
    m6 := by
      obtain ⟨f1, fd1, F1, a1, t1⟩ := E6.ex
      exact mk_i6 F1 (E6.xo (baseV W) (mroV W)) E6.nf a1 t1 E6.B.m
    m7 := by
      obtain ⟨f1, fd1, F1, a1, t1⟩ := E7.ex
      exact mk_i7 F1 (E7.xo (baseV W) (mroV W)) E7.nf a1 t1 E7.B.m
    m8 := by
      obtain ⟨f1, fd1, F1, a1, t1⟩ := E8.ex
      exact mk_i8 F1 (E8.xo (baseV W) (mroV W)) E8.nf a1 t1 E8.B.m
    m9 := by
      obtain ⟨f1, fd1, F1, a1, t1⟩ := E9.ex
      exact mk_i9 F1 (E9.xo (baseV W) (mroV W)) E9.nf a1 t1 E9.B.m
    m10 := by
      obtain ⟨f1, fd1, F1, a1, t1⟩ := E10.ex
      exact mk_i10 F1 (E10.xo (baseV W) (mroV W)) E10.nf a1 t1 E10.B.m
    m11 := by
      obtain ⟨f1, fd1, F1, a1, t1⟩ := E11.ex
      exact mk_i11 F1 (E11.xo (baseV W) (mroV W)) E11.nf a1 t1 E11.B.m
    m15 := by
      obtain ⟨f1, fd1, F1, a1, t1⟩ := E15.ex
      exact mk_i15 F1 (E15.xo baseK mroK) E15.nf a1 t1 E15.B.m
  }
  have bare : ∀ {n : Str} {C : Addr} {bm : List Value} {nid : String}, ErB K mg n C bm nid → PySem.W.excIn K C [.type "ValueError", .type "Exception", .type "BaseException", .type "object"] "ValueError.__new__" = true → Bare K mg n C := fun B x => ⟨⟨_, _, _, _, PySem.F.excBase_ValueError, x⟩, B.kC, B.m⟩
  have oT : Own P w K mg base "_law_take" 1 ["box", "many"] spTake := ok_take dlawtake T
  have oK : Own P w K mg base "_law_kinds" 1 ["made"] (spKinds K c) := ok_kinds dlawkinds T N
  exact ok_law F T Z G M (bare E12 x12) (bare E13 x13) (bare E14 x14) (bare EW xW) (ok_box dlawbox T) oT (ok_pick dlawpick T oT) oK (ok_is_own dlawisown T N Z oK)
theorem end_mk {P : Program} {w : World} {K : PySem.W.Frag} {h : Heap} {mg : Str → Option Value} {fa f W C0 C1 C2 C3 C4 C5 C6 C7 C8 C9 C10 C11 C12 C13 C14 C15 : Addr} (X : K.In h) (G : h.Ns mainGlobals mg) (hfa : mg "law" = some (.ref fa))
    {oc : Value} {od an : Option Addr} {osl : Array (Option Value)} {kV doc pm cdv ct : Value}
    (a : PySem.W.nsIn K mainGlobals "law" = some (some (.ref f))) (l : K.lookup f = some ⟨oc, od, .func (PySem.W.fnOf "law" "law" (defArgs s_law) (defBody s_law) (defScope s_law) .none kV doc pm an cdv ct), osl⟩) (c : PySem.W.codeIn K cdv "law" = true) (k : PySem.W.keepIn K (.ref f) = true)
    (E0 : ErI K mg "InvalidRow" "word" "InvalidRow.__init__" s_i0 C0 (.ref W :: tailV) "ValueError.__new__") (E1 : ErI K mg "InvalidModule" "word" "InvalidModule.__init__" s_i1 C1 (.ref W :: tailV) "ValueError.__new__") (E2 : ErI K mg "InvalidTally" "word" "InvalidTally.__init__" s_i2 C2 (.ref W :: tailV) "ValueError.__new__") (E3 : ErI K mg "InvalidHouse" "at" "InvalidHouse.__init__" s_i3 C3 (.ref W :: tailV) "ValueError.__new__") (E4 : ErI K mg "InvalidText" "at" "InvalidText.__init__" s_i4 C4 (.ref W :: tailV) "ValueError.__new__") (E5 : ErI K mg "InvalidArrivals" "at" "InvalidArrivals.__init__" s_i5 C5 (.ref W :: tailV) "ValueError.__new__") (E6 : ErI K mg "InvalidWishes" "at" "InvalidWishes.__init__" s_i6 C6 (.ref W :: tailV) "ValueError.__new__") (E7 : ErI K mg "InvalidLog" "at" "InvalidLog.__init__" s_i7 C7 (.ref W :: tailV) "ValueError.__new__") (E8 : ErI K mg "InvalidMenu" "at" "InvalidMenu.__init__" s_i8 C8 (.ref W :: tailV) "ValueError.__new__") (E9 : ErI K mg "InvalidGoals" "at" "InvalidGoals.__init__" s_i9 C9 (.ref W :: tailV) "ValueError.__new__") (E10 : ErI K mg "Refused" "at" "Refused.__init__" s_i10 C10 (.ref W :: tailV) "ValueError.__new__") (E11 : ErI K mg "NeverGoes" "ring" "NeverGoes.__init__" s_i11 C11 (.ref W :: tailV) "ValueError.__new__") (E12 : ErB K mg "InvalidContract" C12 (.ref W :: tailV) "ValueError.__new__") (x12 : PySem.W.excIn K C12 [.type "ValueError", .type "Exception", .type "BaseException", .type "object"] "ValueError.__new__" = true) (E13 : ErB K mg "InvalidChoice" C13 (.ref W :: tailV) "ValueError.__new__") (x13 : PySem.W.excIn K C13 [.type "ValueError", .type "Exception", .type "BaseException", .type "object"] "ValueError.__new__" = true) (E14 : ErB K mg "InvalidCommand" C14 (.ref W :: tailV) "ValueError.__new__") (x14 : PySem.W.excIn K C14 [.type "ValueError", .type "Exception", .type "BaseException", .type "object"] "ValueError.__new__" = true) (E15 : ErI K mg "NoPlace" "name" "NoPlace.__init__" s_i15 C15 tailK "LookupError.__new__") (EW : ErB K mg "WaitError" W tailV "ValueError.__new__") (xW : PySem.W.excIn K W [.type "ValueError", .type "Exception", .type "BaseException", .type "object"] "ValueError.__new__" = true) (nd : (W :: [C0, C1, C2, C3, C4, C5, C6, C7, C8, C9, C10, C11, C12, C13, C14, C15]).Nodup) (dlawbox : Df K mg "_law_box" s_law_box ["script", "k"]) (dlawtake : Df K mg "_law_take" s_law_take ["box", "many"]) (dlawpick : Df K mg "_law_pick" s_law_pick ["box", "some"]) (dlawkinds : Df K mg "_law_kinds" s_law_kinds ["made"]) (dlawisown : Df K mg "_law_is_own" s_law_is_own ["made", "spot"]) (T : Txt mg) :
    ∃ fd : FuncData, (∀ (s : Shared) (v : Value), BindsTo s fd ⟨[v], []⟩ [("script", v)]) ∧ ∀ base : Heap, K.In base → base.Ns mainGlobals mg → FnG P w K mg base 7 fa fd ["script"] (spLaw K) := by
  have e := hfa.symm.trans (PySem.W.mg_of X G a)
  cases e
  exact ⟨_, fun s v => .of_eq rfl, fun base _ _ => all_ok E0 E1 E2 E3 E4 E5 E6 E7 E8 E9 E10 E11 E12 x12 E13 x13 E14 x14 E15 EW xW nd dlawbox dlawtake dlawpick dlawkinds dlawisown T (fun_mk l c k)⟩
end My

open PySem PySem.W PyProof.Rows in
set_option maxHeartbeats 0 in
theorem PySem.Challenge.cw_waitworks_k01_errors_and_what_they_keep_holds : PySem.Challenge.rw_waitworks_k01_errors_and_what_they_keep.Holds := by
  w_on; o_law; k_head; (case hw => w_witness2)
  k_fill
  refine MyG.walk_G (l := PySem.Challenge.rw_waitworks_k01_errors_and_what_they_keep) (n := 63) (k := 7) (x := "script") (sp := fun w => My.spLaw _) rfl (by decide) rfl ⟨rfl, by decide, by decide⟩ (fun w h Y => PySem.W.kIn_of Y) ?F (fun _ _ a ns hl _ hS => ⟨a, ns, rfl, hS, hl, fun _ => rfl⟩)
  case F =>
    intro w mg fa h KX G hmg
    refine' My.end_mk KX G hmg ?aL ?lL ?cL ?kL ?zE0 ?zE1 ?zE2 ?zE3 ?zE4 ?zE5 ?zE6 ?zE7 ?zE8 ?zE9 ?zE10 ?zE11 ?zE12 ?zx12 ?zE13 ?zx13 ?zE14 ?zx14 ?zE15 ?zEW ?zxW ?znd ?dlawbox ?dlawtake ?dlawpick ?dlawkinds ?dlawisown ?tx
    (case aL => k_is)
    (case lL => k_is)
    (case cL => k_is)
    (case kL => k_is)
    (case zE0 => (refine' My.eri_mk ?zB ?sa ?nf ?a1 ?t1 ?l ?c ?k); (case zB => (refine' My.erb_mk KX G ?aC ?xL ?hg ?hk ?hs ?hd ?ha ?hn ?ht ?hm ?kC ?tC); (case aC => k_is); (case xL => k_is); (case hg => k_is); (case hk => k_is); (case hs => k_is); (case hd => k_is); (case ha => k_is); (case hn => k_is); (case ht => k_is); (case hm => first | rfl | k_is); (case kC => k_is); (case tC => k_is)); (case sa => k_is); (case nf => k_is); (case a1 => k_is); (case t1 => k_is); (case l => k_is); (case c => k_is); (case k => k_is))
    (case zE1 => (refine' My.eri_mk ?zB ?sa ?nf ?a1 ?t1 ?l ?c ?k); (case zB => (refine' My.erb_mk KX G ?aC ?xL ?hg ?hk ?hs ?hd ?ha ?hn ?ht ?hm ?kC ?tC); (case aC => k_is); (case xL => k_is); (case hg => k_is); (case hk => k_is); (case hs => k_is); (case hd => k_is); (case ha => k_is); (case hn => k_is); (case ht => k_is); (case hm => first | rfl | k_is); (case kC => k_is); (case tC => k_is)); (case sa => k_is); (case nf => k_is); (case a1 => k_is); (case t1 => k_is); (case l => k_is); (case c => k_is); (case k => k_is))
    (case zE2 => (refine' My.eri_mk ?zB ?sa ?nf ?a1 ?t1 ?l ?c ?k); (case zB => (refine' My.erb_mk KX G ?aC ?xL ?hg ?hk ?hs ?hd ?ha ?hn ?ht ?hm ?kC ?tC); (case aC => k_is); (case xL => k_is); (case hg => k_is); (case hk => k_is); (case hs => k_is); (case hd => k_is); (case ha => k_is); (case hn => k_is); (case ht => k_is); (case hm => first | rfl | k_is); (case kC => k_is); (case tC => k_is)); (case sa => k_is); (case nf => k_is); (case a1 => k_is); (case t1 => k_is); (case l => k_is); (case c => k_is); (case k => k_is))
    (case zE3 => (refine' My.eri_mk ?zB ?sa ?nf ?a1 ?t1 ?l ?c ?k); (case zB => (refine' My.erb_mk KX G ?aC ?xL ?hg ?hk ?hs ?hd ?ha ?hn ?ht ?hm ?kC ?tC); (case aC => k_is); (case xL => k_is); (case hg => k_is); (case hk => k_is); (case hs => k_is); (case hd => k_is); (case ha => k_is); (case hn => k_is); (case ht => k_is); (case hm => first | rfl | k_is); (case kC => k_is); (case tC => k_is)); (case sa => k_is); (case nf => k_is); (case a1 => k_is); (case t1 => k_is); (case l => k_is); (case c => k_is); (case k => k_is))
    (case zE4 => (refine' My.eri_mk ?zB ?sa ?nf ?a1 ?t1 ?l ?c ?k); (case zB => (refine' My.erb_mk KX G ?aC ?xL ?hg ?hk ?hs ?hd ?ha ?hn ?ht ?hm ?kC ?tC); (case aC => k_is); (case xL => k_is); (case hg => k_is); (case hk => k_is); (case hs => k_is); (case hd => k_is); (case ha => k_is); (case hn => k_is); (case ht => k_is); (case hm => first | rfl | k_is); (case kC => k_is); (case tC => k_is)); (case sa => k_is); (case nf => k_is); (case a1 => k_is); (case t1 => k_is); (case l => k_is); (case c => k_is); (case k => k_is))
    (case zE5 => (refine' My.eri_mk ?zB ?sa ?nf ?a1 ?t1 ?l ?c ?k); (case zB => (refine' My.erb_mk KX G ?aC ?xL ?hg ?hk ?hs ?hd ?ha ?hn ?ht ?hm ?kC ?tC); (case aC => k_is); (case xL => k_is); (case hg => k_is); (case hk => k_is); (case hs => k_is); (case hd => k_is); (case ha => k_is); (case hn => k_is); (case ht => k_is); (case hm => first | rfl | k_is); (case kC => k_is); (case tC => k_is)); (case sa => k_is); (case nf => k_is); (case a1 => k_is); (case t1 => k_is); (case l => k_is); (case c => k_is); (case k => k_is))
    (case zE6 => (refine' My.eri_mk ?zB ?sa ?nf ?a1 ?t1 ?l ?c ?k); (case zB => (refine' My.erb_mk KX G ?aC ?xL ?hg ?hk ?hs ?hd ?ha ?hn ?ht ?hm ?kC ?tC); (case aC => k_is); (case xL => k_is); (case hg => k_is); (case hk => k_is); (case hs => k_is); (case hd => k_is); (case ha => k_is); (case hn => k_is); (case ht => k_is); (case hm => first | rfl | k_is); (case kC => k_is); (case tC => k_is)); (case sa => k_is); (case nf => k_is); (case a1 => k_is); (case t1 => k_is); (case l => k_is); (case c => k_is); (case k => k_is))
    (case zE7 => (refine' My.eri_mk ?zB ?sa ?nf ?a1 ?t1 ?l ?c ?k); (case zB => (refine' My.erb_mk KX G ?aC ?xL ?hg ?hk ?hs ?hd ?ha ?hn ?ht ?hm ?kC ?tC); (case aC => k_is); (case xL => k_is); (case hg => k_is); (case hk => k_is); (case hs => k_is); (case hd => k_is); (case ha => k_is); (case hn => k_is); (case ht => k_is); (case hm => first | rfl | k_is); (case kC => k_is); (case tC => k_is)); (case sa => k_is); (case nf => k_is); (case a1 => k_is); (case t1 => k_is); (case l => k_is); (case c => k_is); (case k => k_is))
    (case zE8 => (refine' My.eri_mk ?zB ?sa ?nf ?a1 ?t1 ?l ?c ?k); (case zB => (refine' My.erb_mk KX G ?aC ?xL ?hg ?hk ?hs ?hd ?ha ?hn ?ht ?hm ?kC ?tC); (case aC => k_is); (case xL => k_is); (case hg => k_is); (case hk => k_is); (case hs => k_is); (case hd => k_is); (case ha => k_is); (case hn => k_is); (case ht => k_is); (case hm => first | rfl | k_is); (case kC => k_is); (case tC => k_is)); (case sa => k_is); (case nf => k_is); (case a1 => k_is); (case t1 => k_is); (case l => k_is); (case c => k_is); (case k => k_is))
    (case zE9 => (refine' My.eri_mk ?zB ?sa ?nf ?a1 ?t1 ?l ?c ?k); (case zB => (refine' My.erb_mk KX G ?aC ?xL ?hg ?hk ?hs ?hd ?ha ?hn ?ht ?hm ?kC ?tC); (case aC => k_is); (case xL => k_is); (case hg => k_is); (case hk => k_is); (case hs => k_is); (case hd => k_is); (case ha => k_is); (case hn => k_is); (case ht => k_is); (case hm => first | rfl | k_is); (case kC => k_is); (case tC => k_is)); (case sa => k_is); (case nf => k_is); (case a1 => k_is); (case t1 => k_is); (case l => k_is); (case c => k_is); (case k => k_is))
    (case zE10 => (refine' My.eri_mk ?zB ?sa ?nf ?a1 ?t1 ?l ?c ?k); (case zB => (refine' My.erb_mk KX G ?aC ?xL ?hg ?hk ?hs ?hd ?ha ?hn ?ht ?hm ?kC ?tC); (case aC => k_is); (case xL => k_is); (case hg => k_is); (case hk => k_is); (case hs => k_is); (case hd => k_is); (case ha => k_is); (case hn => k_is); (case ht => k_is); (case hm => first | rfl | k_is); (case kC => k_is); (case tC => k_is)); (case sa => k_is); (case nf => k_is); (case a1 => k_is); (case t1 => k_is); (case l => k_is); (case c => k_is); (case k => k_is))
    (case zE11 => (refine' My.eri_mk ?zB ?sa ?nf ?a1 ?t1 ?l ?c ?k); (case zB => (refine' My.erb_mk KX G ?aC ?xL ?hg ?hk ?hs ?hd ?ha ?hn ?ht ?hm ?kC ?tC); (case aC => k_is); (case xL => k_is); (case hg => k_is); (case hk => k_is); (case hs => k_is); (case hd => k_is); (case ha => k_is); (case hn => k_is); (case ht => k_is); (case hm => first | rfl | k_is); (case kC => k_is); (case tC => k_is)); (case sa => k_is); (case nf => k_is); (case a1 => k_is); (case t1 => k_is); (case l => k_is); (case c => k_is); (case k => k_is))
    (case zE12 => (refine' My.erb_mk KX G ?aC ?xL ?hg ?hk ?hs ?hd ?ha ?hn ?ht ?hm ?kC ?tC); (case aC => k_is); (case xL => k_is); (case hg => k_is); (case hk => k_is); (case hs => k_is); (case hd => k_is); (case ha => k_is); (case hn => k_is); (case ht => k_is); (case hm => first | rfl | k_is); (case kC => k_is); (case tC => k_is))
    (case zx12 => first | kernel_rfl | rfl)
    (case zE13 => (refine' My.erb_mk KX G ?aC ?xL ?hg ?hk ?hs ?hd ?ha ?hn ?ht ?hm ?kC ?tC); (case aC => k_is); (case xL => k_is); (case hg => k_is); (case hk => k_is); (case hs => k_is); (case hd => k_is); (case ha => k_is); (case hn => k_is); (case ht => k_is); (case hm => first | rfl | k_is); (case kC => k_is); (case tC => k_is))
    (case zx13 => first | kernel_rfl | rfl)
    (case zE14 => (refine' My.erb_mk KX G ?aC ?xL ?hg ?hk ?hs ?hd ?ha ?hn ?ht ?hm ?kC ?tC); (case aC => k_is); (case xL => k_is); (case hg => k_is); (case hk => k_is); (case hs => k_is); (case hd => k_is); (case ha => k_is); (case hn => k_is); (case ht => k_is); (case hm => first | rfl | k_is); (case kC => k_is); (case tC => k_is))
    (case zx14 => first | kernel_rfl | rfl)
    (case zE15 => (refine' My.eri_mk ?zB ?sa ?nf ?a1 ?t1 ?l ?c ?k); (case zB => (refine' My.erb_mk KX G ?aC ?xL ?hg ?hk ?hs ?hd ?ha ?hn ?ht ?hm ?kC ?tC); (case aC => k_is); (case xL => k_is); (case hg => k_is); (case hk => k_is); (case hs => k_is); (case hd => k_is); (case ha => k_is); (case hn => k_is); (case ht => k_is); (case hm => first | rfl | k_is); (case kC => k_is); (case tC => k_is)); (case sa => k_is); (case nf => k_is); (case a1 => k_is); (case t1 => k_is); (case l => k_is); (case c => k_is); (case k => k_is))
    (case zEW => (refine' My.erb_mk KX G ?aC ?xL ?hg ?hk ?hs ?hd ?ha ?hn ?ht ?hm ?kC ?tC); (case aC => k_is); (case xL => k_is); (case hg => k_is); (case hk => k_is); (case hs => k_is); (case hd => k_is); (case ha => k_is); (case hn => k_is); (case ht => k_is); (case hm => first | rfl | k_is); (case kC => k_is); (case tC => k_is))
    (case zxW => first | kernel_rfl | rfl)
    (case znd => decide)
    (case dlawbox => (refine' My.df_mk KX G ?a ?l ?c ?k (fun _ _ _ _ _ _ us hl => match us, hl with | [_, _], _ => rfl)); (case a => k_is); (case l => k_is); (case c => k_is); (case k => k_is))
    (case dlawtake => (refine' My.df_mk KX G ?a ?l ?c ?k (fun _ _ _ _ _ _ us hl => match us, hl with | [_, _], _ => rfl)); (case a => k_is); (case l => k_is); (case c => k_is); (case k => k_is))
    (case dlawpick => (refine' My.df_mk KX G ?a ?l ?c ?k (fun _ _ _ _ _ _ us hl => match us, hl with | [_, _], _ => rfl)); (case a => k_is); (case l => k_is); (case c => k_is); (case k => k_is))
    (case dlawkinds => (refine' My.df_mk KX G ?a ?l ?c ?k (fun _ _ _ _ _ _ us hl => match us, hl with | [_], _ => rfl)); (case a => k_is); (case l => k_is); (case c => k_is); (case k => k_is))
    (case dlawisown => (refine' My.df_mk KX G ?a ?l ?c ?k (fun _ _ _ _ _ _ us hl => match us, hl with | [_, _], _ => rfl)); (case a => k_is); (case l => k_is); (case c => k_is); (case k => k_is))
    (case tx => refine' ⟨mg_none_of KX G ?_, mg_none_of KX G ?_, mg_none_of KX G ?_, mg_none_of KX G ?_, mg_none_of KX G ?_, mg_none_of KX G ?_, mg_none_of KX G ?_, mg_none_of KX G ?_, mg_none_of KX G ?_, mg_none_of KX G ?_, mg_none_of KX G ?_⟩ <;> k_is)
