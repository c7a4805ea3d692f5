import PyProof.Rows.All
import Wide.All
import OpenK.AllK
import Wide.FinOn
import HandS.ForMost
import HandS.Codes
import HandS.IsInst
import HandS.Property
import HandS.Star
import HandS.Gcd
import HandS.Defaults
import HandS.Walk
import HandS.Deep
import HandS.Strs
import HandS.Words
import HandS.Text
import HandS.Exc
import HandS.ExcInit
import HandS.ExcField
import HandS.WordsExc
import HandS.ExcOwn
import KE.KExcIs
import HandS.ExcIs
import PyProof.NeKinds
import HandS.Dict
import HandS.Style
import HandS.LawCells
import PySem.Challenge.RW_waitworks_k10_modules_refused
set_option Elab.async false
set_option maxRecDepth 100000
set_option autoImplicit false
namespace My
open PySem PySem.Spec PyProof.Rows L2
/-! ## general: either of two readings; defs and methods as one fact each; heaps -/
section
variable {X : Cx}
/-- either of two readings of an expression -/
theorem pe_alt {e : Expr} {t1 t2 : TE} (h1 : PE X e t1) (h2 : PE X e t2) : PE X e (fun σ H Q => t1 σ H Q ∨ t2 σ H Q) :=
  ⟨fun pins s σ H Q I h => h.elim (h1.run pins s σ H Q I) (h2.run pins s σ H Q I)⟩
theorem pi_alt {g e : Expr} {t1 t2 : TI} (h1 : PI X g e t1) (h2 : PI X g e t2) : PI X g e (fun σ H R => t1 σ H R ∨ t2 σ H R) :=
  ⟨fun pins s σ H R I h => h.elim (h1.run pins s σ H R I) (h2.run pins s σ H R I)⟩
theorem pss_alt {ss : List Stmt} {t1 t2 : TS} (h1 : PSs X ss t1) (h2 : PSs X ss t2) : PSs X ss (fun D σ H => t1 D σ H ∨ t2 D σ H) :=
  ⟨fun pins s σ H D I h => h.elim (h1.run pins s σ H D I) (h2.run pins s σ H D I)⟩
end
section
variable {P : Program} {w : World} {K : PySem.W.Frag} {mg : Str → Option Value} {base : Heap}
/-- the module's name x is a def that keeps a promise -/
structure Own (P : Program) (w : World) (K : PySem.W.Frag) (mg : Str → Option Value) (base : Heap) (x : Str) (k : Nat) (ps : List Str) (sp : Sp) : Prop where
  ex : ∃ f fd, FnOk P w K mg base CX0 k f fd ps sp ∧ mg x = some (.ref f) ∧ PySem.W.keepIn K (.ref f) = true ∧ Binds K fd ps []
/-- the module's name x is the def st -/
structure Df (K : PySem.W.Frag) (mg : Str → Option Value) (x : Str) (st : Stmt) (ps : List Str) : Prop where
  ex : ∃ f fd, Fun K x x st f fd ∧ mg x = some (.ref f) ∧ Binds K fd ps []
theorem Df.own {x : Str} {st : Stmt} {ps N : List Str} {k : Nat} {sp : Sp} (D : Df K mg x st ps) (S : FnScope N ps (defScope st)) (len : ∀ vs H Q E, sp vs H Q E → vs.length = ps.length)
    (hbody : ∀ (f : Addr) (cdv : Value) (A : Around) (outer : List Env) (s : Shared) (H : Hp) (vs : List V) (Q : VK) (E : XK), Room k (A.deeper (envOfC x (defScope st) s.heap.objs.size f cdv)) → sp vs H Q E →
      ∃ t, PSs (cxOf CX0 P w K mg base N x (defScope st) f cdv A outer s H E).nox (defBody st) t ∧ t { nx := fun _ H' => Q .non H', rt := Q } (start N vs) H) : Own P w K mg base x (k + 1) ps sp := by
  obtain ⟨f, fd, F, m, b⟩ := D.ex
  exact ⟨f, fd, F.ok S len (hbody f), m, F.kp, b⟩
theorem Own.imp {x : Str} {k j : Nat} {ps : List Str} {sp sp' : Sp} (O : Own P w K mg base x k ps sp) (hk : k ≤ j) (h : ∀ vs H Q E, sp' vs H Q E → sp vs H Q E) : Own P w K mg base x j ps sp' := by
  obtain ⟨f, fd, F, r⟩ := O.ex
  exact ⟨f, fd, (F.mono hk).imp h, r⟩
/-- a method of the class at C -/
structure Mth (P : Program) (w : World) (K : PySem.W.Frag) (mg : Str → Option Value) (base : Heap) (C : Addr) (m : Str) (k : Nat) (ps : List Str) (sp : Sp) : Prop where
  ex : ∃ f fd, FnOk P w K mg base CX0 k f fd ps sp ∧ Meth K C m f ∧ Binds K fd ps []
structure Prp (P : Program) (w : World) (K : PySem.W.Frag) (mg : Str → Option Value) (base : Heap) (C : Addr) (m : Str) (k : Nat) (ps : List Str) (sp : Sp) : Prop where
  ex : ∃ p f fd, FnOk P w K mg base CX0 k f fd ps sp ∧ PropOf K C m p f ∧ Binds K fd ps []
/-- the module's name x is a class whose __init__ keeps a promise -/
structure Mks (P : Program) (w : World) (K : PySem.W.Frag) (mg : Str → Option Value) (base : Heap) (x : Str) (C : Addr) (k : Nat) (ps : List Str) (sp : Sp) : Prop where
  ex : ∃ f fd, FnOk P w K mg base CX0 k f fd ps sp ∧ mg x = some (.ref C) ∧ Mk K C f ∧ Binds K fd ps []
end
section
variable {X : Cx} {x m : Str} {p pos apos : Pos} {e o : Expr} {es : List Expr} {t : TA} {ta : TE} {k : Nat} {ps : List Str} {sp : Sp} {C : Addr}
theorem pe_own (O : Own X.prog X.w X.K X.mg X.base x k ps sp) (hr : Room k X.A) (ha : PA X (e :: es) t) (hg : Gl X x := by exact rfl) (hdb : (x == ("__debug__" : Str)) = false := by decide)
    (he : starEach (e :: es) X.env = (false, eval e X.env) :: starEach es X.env := by rfl) (hpl : (backTo pos (starEach es X.env)).any (·.1) = false := by rfl) : PE X (.Call (.Name x p) (e :: es) [] pos) (tCall sp [] E0 t) := by
  obtain ⟨f, fd, G, hm, hk, hb⟩ := O.ex
  exact pe_call G hr hg hm hk hb .nil pass0 ha hdb he hpl
theorem pe_own0 (O : Own X.prog X.w X.K X.mg X.base x k ps sp) (hr : Room k X.A) (hg : Gl X x := by exact rfl) (hdb : (x == ("__debug__" : Str)) = false := by decide) : PE X (.Call (.Name x p) [] [] pos) (tCall sp [] E0 tNil) := by
  obtain ⟨f, fd, G, hm, hk, hb⟩ := O.ex
  exact pe_call0 G hr hg hm hk hb .nil pass0 hdb
theorem pe_mks (O : Mks X.prog X.w X.K X.mg X.base x C k ps sp) (hr : Room (k + 1) X.A) (ha : PA X (e :: es) t) (hg : Gl X x := by exact rfl) (hdb : (x == ("__debug__" : Str)) = false := by decide)
    (he : starEach (e :: es) X.env = (false, eval e X.env) :: starEach es X.env := by rfl) (hpl : (backTo pos (starEach es X.env)).any (·.1) = false := by rfl) : PE X (.Call (.Name x p) (e :: es) [] pos) (tMake C sp [] E0 t) := by
  obtain ⟨f, fd, G, hm, M, hb⟩ := O.ex
  exact pe_make M G hr hg hm hb .nil pass0 ha hdb he hpl
theorem pe_mth (c : Cls X.K C) (O : Mth X.prog X.w X.K X.mg X.base C m k ps sp) (hr : Room k X.A) (he : PE X o ta) (ha : PA X (e :: es) t)
    (hst : starEach (e :: es) X.env = (false, eval e X.env) :: starEach es X.env := by rfl) (hpl : (backTo pos (starEach es X.env)).any (·.1) = false := by rfl)
    {pl : Sem Bool} (ht : eval (.Call (.Attribute o m apos) (e :: es) [] pos) X.env = (do
      let ov ← eval o X.env
      standAt apos.atName
      let (f, first) ← holding [ov] (getMethod ov m pl)
      callWith pos f first (backTo pos (starEach (e :: es) X.env)) (backToKw pos (keywordEach [] X.env))) := by rfl) : PE X (.Call (.Attribute o m apos) (e :: es) [] pos) (tMeth C m sp [] E0 ta t) := by
  obtain ⟨f, fd, G, M, hb⟩ := O.ex
  exact pe_meth he c M G hr hb .nil pass0 ha hst hpl ht
theorem pe_prp (c : Cls X.K C) (O : Prp X.prog X.w X.K X.mg X.base C m k ps sp) (hr : Room (k + 1) X.A) (he : PE X o ta) (hab : attributeBase o m X.env (eval o X.env) = eval o X.env := by rfl) : PE X (.Attribute o m pos) (tProp C sp [] E0 ta) := by
  obtain ⟨q, f, fd, G, M, hb⟩ := O.ex
  exact pe_prop he c M G hr hb .nil pass0 hab
end
/-! ## heaps -/
theorem same_upd {H : Hp} {p : Addr} {o : HO} (h : H p = none) : Same H (upd H p o) := fun b x e => by
  rw [upd_ne (ne_of_none e h)]
  exact e
theorem _root_.L2.Same.seqT {K : PySem.W.Frag} {H H' : Hp} {a : Addr} {xs : List V} (e : Same H H') (h : SqT K H a xs) : SqT K H' a xs := by
  rcases h with (h | ⟨o, h⟩) | h
  · exact .inl (.inl (e _ _ h))
  · exact .inl (.inr ⟨o, e _ _ h⟩)
  · exact .inr h
theorem new_lst {Q : VK} {xs : List V} {H : Hp} (hl : xs.length ≤ sizeLine) (h : ∀ p H', Same H H' → H p = none → H' p = some (.lst xs) → Q (.ref p) H') : xs.length ≤ sizeLine ∧ ∀ p, H p = none → Q (.ref p) (upd H p (.lst xs)) :=
  ⟨hl, fun p hp => h p _ (same_upd hp) hp upd_same⟩
theorem new_tup {Q : VK} {xs : List V} {H : Hp} (hl : xs.length ≤ sizeLine) (h : ∀ p H', Same H H' → H p = none → H' p = some (.tup xs) → Q (.ref p) H') : xs.length ≤ sizeLine ∧ ∀ p, H p = none → Q (.ref p) (upd H p (.tup xs)) :=
  ⟨hl, fun p hp => h p _ (same_upd hp) hp upd_same⟩
theorem new_o {Q : VK} {o : HO} {H : Hp} (h : ∀ p H', Same H H' → H p = none → H' p = some o → Q (.ref p) H') : ∀ p, H p = none → Q (.ref p) (upd H p o) :=
  fun p hp => h p _ (same_upd hp) hp upd_same
end My
namespace My
open PySem PySem.Spec PyProof.Rows L2
/-! ## readings in one step -/
theorem rd_isi {K : PySem.W.Frag} {H : Hp} {Q : VK} {x : V} {m : String} (n : String) (b : Bool) (ty : TyX K H x (.type n)) (h : kitB n m = some b) (q : Q (.bl b) H) : rIsi K [x, .ty m] H Q :=
  ⟨_, _, _, _, _, rfl, .ty _, ty, kit_ty h, q⟩
theorem rd_isi2 {K : PySem.W.Frag} {H : Hp} {Q : VK} {x : V} {m m' : String} {tp : Addr} (n : String) (b b' : Bool) (ht : H tp = some (.tup [.ty m, .ty m'])) (ty : TyX K H x (.type n)) (h : kitB n m = some b) (h' : kitB n m' = some b') (q : Q (.bl (b || b')) H) : rIsiT K [x, .ref tp] H Q :=
  ⟨_, _, _, _, _, _, rfl, ht, .cons (.ty _) (.cons (.ty _) .nil), ty, kitAny_cons (kit_ty h) (fun e => kitAny_cons (r := b || b') (kit_ty h') (fun e' => by rw [e, e']; rfl) (fun e' => by rw [e, e']; rfl)) (fun e => by rw [e]; rfl), q⟩
end My
namespace My
open PySem PySem.Spec PyProof.Rows L2
/-! ## a list or a tuple -/
def SqS (K : PySem.W.Frag) (H : Hp) (a : Addr) (xs : List V) : Prop := SqL K H a xs ∨ SqT K H a xs
theorem _root_.L2.Same.sqs {K : PySem.W.Frag} {H H' : Hp} {a : Addr} {xs : List V} (e : Same H H') (h : SqS K H a xs) : SqS K H' a xs := h.imp e.seq e.seqT
/-- how a walk over such a thing goes, as long as what is tracked in H0 stands -/
structure SeqIt (H0 : Hp) (xs : List V) (J : It) : Prop where
  go : ∀ i H, Same H0 H → i < xs.length → J.go i H
  yld : ∀ i H x H', Same H0 H → J.yld i H x H' → H' = H ∧ xs[i]? = some x
  stop : ∀ i H, Same H0 H → xs.length ≤ i → J.stop i H
theorem seqIt_l {K : PySem.W.Frag} {H0 : Hp} {a : Addr} {xs : List V} (h : SqL K H0 a xs) : SeqIt H0 xs (Itl K a) :=
  ⟨fun i H s l => ⟨xs, xs[i], s.seq h, by simp [l]⟩, fun i H x H' s y => ⟨y.1, y.2 xs (s.seq h)⟩, fun i H s l => ⟨xs, s.seq h, l⟩⟩
theorem seqIt_t {K : PySem.W.Frag} {H0 : Hp} {a : Addr} {xs : List V} (h : SqT K H0 a xs) : SeqIt H0 xs (Itt K a) :=
  ⟨fun i H s l => ⟨xs, xs[i], s.seqT h, by simp [l]⟩, fun i H x H' s y => ⟨y.1, y.2 xs (s.seqT h)⟩, fun i H s l => ⟨xs, s.seqT h, l⟩⟩
theorem seq_pi {K : PySem.W.Frag} {a : Addr} {xs : List V} {i : Nat} {σ : L2.St} {H : Hp} {R : It → Hp → Prop} (h : SqS K H a xs) (hv : σ[i]? = some (some (.ref a))) (hR : ∀ J, SeqIt H xs J → R J H) : iList K (tVar i) σ H R ∨ iTup K (tVar i) σ H R :=
  h.elim (fun h => Or.inl ⟨_, hv, a, rfl, ⟨_, h⟩, hR _ (seqIt_l h)⟩) fun h => Or.inr ⟨_, hv, a, rfl, ⟨_, h⟩, hR _ (seqIt_t h)⟩
theorem for_seq {J : It} {H0 : Hp} {xs : List V} {g : TG} {tb : TS} {D : Ends} {σ : L2.St} {H : Hp} (hJ : SeqIt H0 xs J) (Pv : Nat → L2.St → Hp → Prop) (h0 : Pv 0 σ H) (hl : ∀ i σ H, Pv i σ H → Same H0 H)
    (hs : ∀ i x σ H, xs[i]? = some x → Pv i σ H → g x σ H fun σ2 H2 => tb { D with nx := Pv (i + 1), ct := Pv (i + 1), bk := D.nx } σ2 H2) (hd : ∀ σ H, Pv xs.length σ H → D.nx σ H) :
    ∃ W : Nat → Nat → L2.St → Hp → Prop, (∃ m, W 0 m σ H) ∧ ∀ i m σ H, W i m σ H →
      (J.stop i H ∧ D.nx σ H) ∨ (J.go i H ∧ ∃ N : L2.St → Hp → Prop, (∀ σ' H', N σ' H' → ∃ m', m' < m ∧ W (i + 1) m' σ' H') ∧ ∀ x H', J.yld i H x H' → g x σ H' fun σ2 H2 => tb { D with nx := N, ct := N, bk := D.nx } σ2 H2) := by
  refine ⟨fun i m σ H => m + i = xs.length ∧ Pv i σ H, ⟨xs.length, by omega, h0⟩, fun i m σ H q => ?_⟩
  obtain ⟨em, p⟩ := q
  have s := hl i σ H p
  by_cases hlt : i < xs.length
  · refine Or.inr ⟨hJ.go i H s hlt, Pv (i + 1), fun σ' H' p' => ⟨m - 1, by omega, by omega, p'⟩, fun x H' y => ?_⟩
    obtain ⟨rfl, e⟩ := hJ.yld i H x H' s y
    exact hs i x _ _ e p
  · have e : i = xs.length := by omega
    subst e
    exact Or.inl ⟨hJ.stop _ H s (Nat.le_refl _), hd _ _ p⟩
theorem lc_seq {J : It} {H0 : Hp} {xs : List V} {g : TG} {tt : TT} {te : TE} {vs : List Nat} {σ : L2.St} {H1 : Hp} {D : Addr} {Qd : Hp → Prop} (hJ : SeqIt H0 xs J) (Pv : Nat → Hp → Prop) (h0 : Pv 0 (upd H1 D (.lst []))) (hl : ∀ i H, Pv i H → Same H0 H)
    (hs : ∀ i x H, xs[i]? = some x → Pv i H → g x (wipe σ vs) H fun σ2 H2 => wipe σ2 vs = wipe σ vs ∧ tt σ2 H2 fun b H3 =>
      if b = true then te σ2 H3 fun y H4 => ∃ acc, H4 D = some (.lst acc) ∧ acc.length < sizeLine ∧ Pv (i + 1) (upd H4 D (.lst (acc ++ [y]))) else Pv (i + 1) H3) (hd : ∀ H, Pv xs.length H → Qd H) :
    ∃ W : Nat → Nat → Hp → Prop, (∃ m, W 0 m (upd H1 D (.lst []))) ∧ ∀ i m H, W i m H →
      (J.stop i H ∧ Qd H) ∨ (J.go i H ∧ ∃ Nx : Hp → Prop, (∀ H', Nx H' → ∃ m', m' < m ∧ W (i + 1) m' H') ∧ ∀ x H', J.yld i H x H' → g x (wipe σ vs) H' fun σ2 H2 => wipe σ2 vs = wipe σ vs ∧ tt σ2 H2 fun b H3 =>
        if b = true then te σ2 H3 fun y H4 => ∃ acc, H4 D = some (.lst acc) ∧ acc.length < sizeLine ∧ Nx (upd H4 D (.lst (acc ++ [y]))) else Nx H3) := by
  refine ⟨fun i m H => m + i = xs.length ∧ Pv i H, ⟨xs.length, by omega, h0⟩, fun i m H q => ?_⟩
  obtain ⟨em, p⟩ := q
  have s := hl i H p
  by_cases hlt : i < xs.length
  · refine Or.inr ⟨hJ.go i H s hlt, Pv (i + 1), fun H' p' => ⟨m - 1, by omega, by omega, p'⟩, fun x H' y => ?_⟩
    obtain ⟨rfl, e⟩ := hJ.yld i H x H' s y
    exact hs i x _ e p
  · have e : i = xs.length := by omega
    subst e
    exact Or.inl ⟨hJ.stop _ H s (Nat.le_refl _), hd _ p⟩
theorem new_facts {H H1 : Hp} {p : Addr} {o : HO} (hp : H p = none) (hq : upd H p o = H1) : Same H H1 ∧ H1 p = some o := by
  subst hq
  exact ⟨same_upd hp, upd_same⟩
theorem _root_.L2.Same.upd1 {H0 H : Hp} {p : Addr} {o : HO} (s : Same H0 H) (hp : H0 p = none) : Same H0 (upd H p o) := fun b x e => by
  rw [upd_ne (ne_of_none e hp)]
  exact s _ _ e
end My

namespace My
open PySem PySem.Spec PyProof.Rows L2
theorem Same.at {H H' : Hp} {a : Addr} {o : HO} (e : Same H H') (h : H a = some o) : H' a = some o := e _ _ h
/-- a comprehension's new list: what f gives of the turns so far -/
structure LcP (H1 : Hp) (D : Addr) (f : Nat → Option V) (i : Nat) (H : Hp) : Prop where
  same : Same H1 H
  lst : H D = some (.lst ((List.range i).filterMap f))
theorem fm_len (f : Nat → Option V) (i : Nat) : ((List.range i).filterMap f).length ≤ i := by
  have := List.length_filterMap_le f (List.range i)
  rw [List.length_range] at this
  exact this
theorem LcP.zero {H1 : Hp} {D : Addr} {f : Nat → Option V} (n : H1 D = none) : LcP H1 D f 0 (upd H1 D (.lst [])) := ⟨same_upd n, upd_same⟩
theorem LcP.yes {H1 H H4 : Hp} {D : Addr} {f : Nat → Option V} {i : Nat} {y : V} (p : LcP H1 D f i H) (s : Same H H4) (n : H1 D = none) (hi : i < sizeLine) (e : f i = some y) :
    ∃ acc, H4 D = some (.lst acc) ∧ acc.length < sizeLine ∧ LcP H1 D f (i + 1) (upd H4 D (.lst (acc ++ [y]))) := by
  refine ⟨_, s _ _ p.lst, Nat.lt_of_le_of_lt (fm_len f i) hi, (p.same.trans s).upd1 n, ?_⟩
  rw [upd_same, List.range_succ, List.filterMap_append, List.filterMap_cons, e, List.filterMap_nil]
theorem LcP.no {H1 H H3 : Hp} {D : Addr} {f : Nat → Option V} {i : Nat} (p : LcP H1 D f i H) (s : Same H H3) (e : f i = none) : LcP H1 D f (i + 1) H3 := by
  refine ⟨p.same.trans s, ?_⟩
  rw [s _ _ p.lst, List.range_succ, List.filterMap_append, List.filterMap_cons, e, List.filterMap_nil, List.append_nil]
theorem fm_join {β : Type} : ∀ (zs : List (Option β)), (List.range zs.length).filterMap (fun i => (zs[i]?).join) = zs.filterMap id
  | [] => rfl
  | z :: zs => by
    rw [List.length_cons, List.range_succ_eq_map, List.filterMap_cons, List.filterMap_map]
    have e : (fun (j : Nat) => ((z :: zs)[j]?).join) ∘ Nat.succ = fun (j : Nat) => (zs[j]?).join := by
      funext j
      rfl
    rw [e, fm_join zs]
    cases z <;> rfl
theorem fm_opt {α β : Type} (xs : List α) (g : α → Option β) : (List.range xs.length).filterMap (fun i => (xs[i]?).bind g) = xs.filterMap g := by
  have e : (fun (i : Nat) => (xs[i]?).bind g) = fun (i : Nat) => ((xs.map g)[i]?).join := by
    funext i
    rw [List.getElem?_map]
    cases xs[i]? <;> rfl
  rw [e, show xs.length = (xs.map g).length from (List.length_map ..).symm, fm_join, List.filterMap_map]
  rfl
theorem fm_get {α β : Type} (xs : List α) (g : α → β) : (List.range xs.length).filterMap (fun i => (xs[i]?).map g) = xs.map g := by
  have e : (fun (i : Nat) => (xs[i]?).map g) = fun (i : Nat) => (xs[i]?).bind fun x => some (g x) := by
    funext i
    cases xs[i]? <;> rfl
  rw [e, fm_opt]
  exact congrFun (List.filterMap_eq_map (f := g)) xs
theorem fm_if {α β : Type} (xs : List α) (p : α → Bool) (g : α → β) : (List.range xs.length).filterMap (fun i => (xs[i]?).bind fun x => if p x = true then some (g x) else none) = (xs.filter p).map g := by
  rw [fm_opt]
  induction xs with
  | nil => rfl
  | cons x xs ih =>
    by_cases c : p x = true
    · rw [List.filterMap_cons, if_pos c, List.filter_cons_of_pos c, List.map_cons, ih]
    · rw [List.filterMap_cons, if_neg c, List.filter_cons_of_neg c, ih]
end My

/-! data on the abstract heap; what the checks of the program say of data -/
namespace My
open PySem PySem.Spec PyProof.Rows L2
/-- what a text must be to be told and compared -/
def okS (x : Str) : Bool := x.cps.all (· < 0x110000) && decide (x.length ≤ 1000)
mutual
/-- v is the data d, in lists and tuples that stand in H -/
inductive Dv (H : Hp) : V → PyData → Prop
  | non : Dv H .non .none
  | bl (b : Bool) : Dv H (.bl b) (.bool b)
  | int (i : Int) : Dv H (.int i) (.int i)
  | str {x : Str} (h : okS x = true) : Dv H (.str x) (.str x)
  | lst {a : Addr} {xs : List V} {ds : List PyData} (e : H a = some (.lst xs)) (h : DvAll H xs ds) (sm : ds.length ≤ 2000) : Dv H (.ref a) (.list ds)
  | tup {a : Addr} {xs : List V} {ds : List PyData} (e : H a = some (.tup xs)) (h : DvAll H xs ds) (sm : ds.length ≤ 2000) : Dv H (.ref a) (.tuple ds)
inductive DvAll (H : Hp) : List V → List PyData → Prop
  | nil : DvAll H [] []
  | cons {v : V} {d : PyData} {vs : List V} {ds : List PyData} (h : Dv H v d) (t : DvAll H vs ds) : DvAll H (v :: vs) (d :: ds)
end
section
variable {K : PySem.W.Frag} {H H' : Hp} {v : V} {d : PyData} {xs ys : List V} {ds es : List PyData}
theorem Dv.same (s : Same H H') (h : Dv H v d) : Dv H' v d :=
  Dv.rec (motive_1 := fun v d _ => Dv H' v d) (motive_2 := fun vs ds _ => DvAll H' vs ds) .non (fun b => .bl b) (fun i => .int i) (fun q => .str q) (fun q _ sm ih => .lst (s _ _ q) ih sm) (fun q _ sm ih => .tup (s _ _ q) ih sm) .nil (fun _ _ a b => .cons a b) h
theorem DvAll.same (s : Same H H') (h : DvAll H xs ds) : DvAll H' xs ds := by
  induction xs generalizing ds with
  | nil =>
    cases h
    exact .nil
  | cons x xs ih =>
    cases h with
    | cons h t => exact .cons (h.same s) (ih t)
theorem Dv.dp (h : Dv H v d) : Dp K H v d :=
  Dv.rec (motive_1 := fun v d _ => Dp K H v d) (motive_2 := fun vs ds _ => DpAll K H vs ds) .non (fun b => .bl b) (fun i => .int i) (fun {x} _ => .str x) (fun q _ _ ih => .lst (SqL.of q) ih) (fun q _ _ ih => .tup (SqT.of q) ih) .nil (fun _ _ a b => .cons a b) h
theorem Dv.lay (h : Dv H v d) : d.canLay0 = true :=
  Dv.rec (motive_1 := fun _ d _ => d.canLay0 = true) (motive_2 := fun _ ds _ => PyData.canLayAll0 ds = true) rfl (fun _ => rfl) (fun _ => rfl) (fun {x} q => (Bool.and_eq_true_iff.mp q).1) (fun _ _ _ ih => ih) (fun _ _ _ ih => ih) rfl
    (fun {_ d _ ds} _ _ a b => by
      show (PyData.canLay0 d && PyData.canLayAll0 ds) = true
      rw [a, b]
      rfl) h
theorem DvAll.len (h : DvAll H xs ds) : xs.length = ds.length := by
  induction xs generalizing ds with
  | nil =>
    cases h
    rfl
  | cons x xs ih =>
    cases h with
    | cons h t => rw [List.length_cons, List.length_cons, ih t]
theorem DvAll.get (h : DvAll H xs ds) {i : Nat} {x : V} (e : xs[i]? = some x) : ∃ d, ds[i]? = some d ∧ Dv H x d := by
  induction xs generalizing ds i with
  | nil => cases i <;> cases e
  | cons y xs ih =>
    cases h with
    | cons h t =>
      cases i with
      | zero =>
        cases e
        exact ⟨_, rfl, h⟩
      | succ i => exact ih t e
theorem DvAll.app (h : DvAll H xs ds) (g : DvAll H ys es) : DvAll H (xs ++ ys) (ds ++ es) := by
  induction xs generalizing ds with
  | nil =>
    cases h
    exact g
  | cons x xs ih =>
    cases h with
    | cons h t => exact .cons h (ih t)
theorem DvAll.inv {d : PyData} (h : DvAll H xs (d :: ds)) : ∃ x ys, xs = x :: ys ∧ Dv H x d ∧ DvAll H ys ds := by
  cases h with
  | cons h t => exact ⟨_, _, rfl, h, t⟩
theorem DvAll.inv0 (h : DvAll H xs []) : xs = [] := by
  cases h
  rfl
end
/-- texts -/
theorem dvAll_str {H : Hp} : ∀ {ss : List Str}, (∀ x ∈ ss, okS x = true) → DvAll H (ss.map V.str) (ss.map PyData.str)
  | [], _ => .nil
  | x :: ss, h => .cons (.str (h x List.mem_cons_self)) (dvAll_str fun y hy => h y (List.mem_cons_of_mem _ hy))
/-! ## the types -/
def tyD : PyData → String
  | .none => "NoneType"
  | .bool _ => "bool"
  | .int _ => "int"
  | .str _ => "str"
  | .list _ => "list"
  | .tuple _ => "tuple"
  | .dict _ => "dict"
def isIntD : PyData → Bool
  | .int _ => true
  | _ => false
def isNumD : PyData → Bool
  | .int i => decide (0 ≤ i)
  | _ => false
def isStrD : PyData → Bool
  | .str _ => true
  | _ => false
def isTupD : PyData → Bool
  | .tuple _ => true
  | _ => false
def isSeqD : PyData → Bool
  | .list _ => true
  | .tuple _ => true
  | _ => false
/-- what stands in it, if it is a list or a tuple -/
def itemsD : PyData → List PyData
  | .list ds => ds
  | .tuple ds => ds
  | _ => []
def isTupND (n : Int) : PyData → Bool
  | .tuple ds => decide ((ds.length : Int) = n)
  | _ => false
/-- a small letter's code -/
def isLow (c : Nat) : Bool := decide (97 ≤ c) && decide (c ≤ 122)
def nameS (x : Str) : Bool := decide (1 ≤ x.length) && (decide (x.length ≤ 5) && x.cps.toList.all isLow)
def isNameD : PyData → Bool
  | .str x => nameS x
  | _ => false
def isLinkD : PyData → Bool
  | .tuple [f, t, m, l] => isStrD f && (isStrD t && (isNumD m && isNumD l))
  | _ => false
section
variable {K : PySem.W.Frag} {H : Hp} {v : V} {d : PyData} {Q : VK}
theorem Dv.ty (h : Dv H v d) : TyX K H v (.type (tyD d)) := by
  cases h with
  | non => exact .base .non
  | bl b => exact .base (.bl b)
  | int i => exact .base (.int i)
  | str h => exact .base (.str _)
  | lst e _ _ => exact .base (.lst e)
  | tup e _ _ => exact .base (.tup e)
theorem kb_int (d : PyData) : kitB (tyD d) "int" = some (match d with | .int _ => true | .bool _ => true | _ => false) := by cases d <;> (simp only [tyD, isStrD, isTupD]; decide +kernel)
theorem kb_bool (d : PyData) : kitB (tyD d) "bool" = some (match d with | .bool _ => true | _ => false) := by cases d <;> (simp only [tyD, isStrD, isTupD]; decide +kernel)
theorem kb_str (d : PyData) : kitB (tyD d) "str" = some (isStrD d) := by cases d <;> (simp only [tyD, isStrD, isTupD]; decide +kernel)
theorem kb_list (d : PyData) : kitB (tyD d) "list" = some (match d with | .list _ => true | _ => false) := by cases d <;> (simp only [tyD, isStrD, isTupD]; decide +kernel)
theorem kb_tuple (d : PyData) : kitB (tyD d) "tuple" = some (isTupD d) := by cases d <;> (simp only [tyD, isStrD, isTupD]; decide +kernel)
theorem rd_str (h : Dv H v d) (q : Q (.bl (isStrD d)) H) : rIsi K [v, .ty "str"] H Q := rd_isi _ _ h.ty (kb_str d) q
theorem rd_tuple (h : Dv H v d) (q : Q (.bl (isTupD d)) H) : rIsi K [v, .ty "tuple"] H Q := rd_isi _ _ h.ty (kb_tuple d) q
theorem rd_seq {tp : Addr} (h : Dv H v d) (e : H tp = some (.tup [.ty "list", .ty "tuple"])) (q : Q (.bl (isSeqD d)) H) : rIsiT K [v, .ref tp] H Q := by
  refine rd_isi2 _ _ _ e h.ty (kb_list d) (kb_tuple d) ?_
  cases d <;> exact q
/-- a list or a tuple as it stands -/
theorem Dv.seq (h : Dv H v d) (s : isSeqD d = true) : ∃ a xs, v = .ref a ∧ SqS K H a xs ∧ DvAll H xs (itemsD d) ∧ (itemsD d).length ≤ 2000 ∧ (H a = some (.lst xs) ∨ H a = some (.tup xs)) := by
  cases h with
  | lst e h sm => exact ⟨_, _, rfl, Or.inl (SqL.of e), h, sm, Or.inl e⟩
  | tup e h sm => exact ⟨_, _, rfl, Or.inr (SqT.of e), h, sm, Or.inr e⟩
  | _ => cases s
theorem Dv.tupE (h : Dv H v d) (s : isTupD d = true) : ∃ a xs ds, v = .ref a ∧ d = .tuple ds ∧ H a = some (.tup xs) ∧ DvAll H xs ds ∧ ds.length ≤ 2000 := by
  cases h with
  | tup e h sm => exact ⟨_, _, _, rfl, rfl, e, h, sm⟩
  | _ => cases s
theorem isTupN_tup {n : Int} (d : PyData) : isTupND n d = true → isTupD d = true := by
  cases d <;> intro h <;> first | rfl | cases h
end
end My

/-! len(set(xs)), xs a list or a tuple of texts -/
namespace MyS
open PySem PySem.Spec PyProof.Rows
/-- how many different texts stand among the first i -/
def cntS (xs : List Str) : Nat → Nat
  | 0 => 0
  | i + 1 => if (xs.take i).any (· == xs.getD i Str.empty) = true then cntS xs i else cntS xs i + 1
theorem cntS_le (xs : List Str) : ∀ i, cntS xs i ≤ i
  | 0 => Nat.le_refl _
  | i + 1 => by
    have := cntS_le xs i
    unfold cntS
    split <;> omega
theorem any_take (xs : List Str) {i : Nat} (hi : i < xs.length) (y : Str) : (xs.take (i + 1)).any (· == y) = ((xs.take i).any (· == y) || decide (y = xs.getD i Str.empty)) := by
  have e1 : xs.getD i Str.empty = xs[i] := by
    rw [List.getD_eq_getElem?_getD, List.getElem?_eq_getElem hi]
    rfl
  rw [List.take_add_one, List.getElem?_eq_getElem hi, List.any_append, e1]
  congr 1
  show ([xs[i]].any (· == y)) = _
  rw [List.any_cons, List.any_nil, Bool.or_false, Bool.eq_iff_iff, beq_iff_eq, decide_eq_true_iff]
  exact eq_comm
theorem cntS_full {xs : List Str} : ∀ i, i ≤ xs.length → (cntS xs i = i ↔ (xs.take i).Nodup)
  | 0, _ => by simp [cntS]
  | i + 1, h => by
    have hi : i < xs.length := h
    have ih := cntS_full i (Nat.le_of_lt hi)
    have le := cntS_le xs i
    have e1 : xs.getD i Str.empty = xs[i] := by
      rw [List.getD_eq_getElem?_getD, List.getElem?_eq_getElem hi]
      rfl
    have mem : (xs.take i).any (· == xs.getD i Str.empty) = true ↔ xs[i] ∈ xs.take i := by
      rw [e1, List.any_eq_true]
      constructor
      · rintro ⟨y, hy, q⟩
        rw [← eq_of_beq q]
        exact hy
      · exact fun q => ⟨_, q, beq_self_eq_true _⟩
    rw [List.take_add_one, List.getElem?_eq_getElem hi]
    show _ ↔ (xs.take i ++ [xs[i]]).Nodup
    rw [List.nodup_append]
    unfold cntS
    by_cases c : (xs.take i).any (· == xs.getD i Str.empty) = true
    · rw [if_pos c]
      constructor
      · intro q
        omega
      · rintro ⟨_, _, q⟩
        exact absurd rfl (q _ (mem.mp c) _ (List.mem_singleton.mpr rfl))
    · rw [if_neg c]
      constructor
      · intro q
        refine ⟨ih.mp (by omega), by simp, fun a ha b hb => ?_⟩
        rw [List.mem_singleton.mp hb]
        rintro rfl
        exact c (mem.mpr ha)
      · rintro ⟨q, _, _⟩
        rw [ih.mpr q]
theorem cntS_nodup (xs : List Str) : decide (cntS xs xs.length = xs.length) = decide xs.Nodup := by
  have := cntS_full (xs := xs) xs.length (Nat.le_refl _)
  rw [List.take_length] at this
  exact decide_eq_decide.mpr this
section
variable {prog : Program} {w : World} {A : Around} {R : Result → Shared → Prop} {I : Addr} {fp wr : List Addr} {G : Array GenState → Array GenState → Prop} {n : Nat} {P : Nat → Value → Prop} {St : Nat → Shared → Prop}
/-- the set has the first i -/
abbrev HasTo (prog : Program) (w : World) (h : Heap) (a : Addr) (xs : List Str) (i : Nat) : Prop := h.SetOf (PySem.strKind prog w) a (fun y => (xs.take i).any (· == y)) (cntS xs i)
theorem HasTo.at {h h' : Heap} {a : Addr} {xs : List Str} {i : Nat} (k : ∀ o, h.get? a = some o → h'.get? a = some o) (q : HasTo prog w h a xs i) : HasTo prog w h' a xs i := by
  obtain ⟨o, es, ep, tb, ho, more⟩ := q
  exact ⟨o, es, ep, tb, k o ho, more⟩
theorem fill (W : WalksS prog w A.in1 I fp wr G n P St) (a : Addr) (out : a ∉ fp) (xs : List Str) (ln : xs.length = n) (sm : n + 1 < scanBound) (is : ∀ i v, P i v → ∃ t, v = .str (xs.getD i Str.empty) t) :
    ∀ (left i : Nat) (s : Shared), n - i = left → i ≤ n → St i s → HasTo prog w s.heap a xs i → (∀ s', Moved (a :: wr) G s s' → HasTo prog w s'.heap a xs n → R (.ok (.ret .none)) s') →
      codeAny (model prog w) A (.builtin "set.update.loop" ⟨[.ref a, .ref I], []⟩) R s
  | 0, i, s, el, le, st, has, go => by
    obtain rfl : i = n := by omega
    refine codeAny_builtin F.entry_set_update_loop ?_
    rw [Around.under_plainId F.plain_set_update_loop _]
    show wpAny _ A.in1 (pyNext (.ref I) >>= _) _ _ _
    refine wpAny_bind (W.done _ _ _ st fun s' mv => ?_)
    show wpAny _ A.in1 (ret Value.none) _ _ _
    exact wpAny_pure (go s' (mv.mono fun b hb => List.mem_cons_of_mem _ hb) (has.at fun o ho => mv.heap a _ (fun h => out (W.sub _ h)) ho))
  | left + 1, i, s, el, le, st, has, go => by
    have lt : i < n := by omega
    refine codeAny_builtin F.entry_set_update_loop ?_
    rw [Around.under_plainId F.plain_set_update_loop _]
    show wpAny _ A.in1 (pyNext (.ref I) >>= _) _ _ _
    refine wpAny_bind (W.item i s _ _ lt st fun v s1 pv st1 mv => ?_)
    obtain ⟨t, rfl⟩ := is i v pv
    have has1 : HasTo prog w s1.heap a xs i := has.at fun o ho => mv.heap a _ (fun h => out (W.sub _ h)) ho
    have cl := cntS_le xs i
    show wpAny _ A.in1 (holding [Value.str (xs.getD i Str.empty) t] (setAdd a (.str (xs.getD i Str.empty) t)) >>= _) _ _ _
    refine wpAny_bind (wpAny_holding ?_)
    unfold setAdd
    refine wpAny_holding (wpAny_bind ((PySem.strKind prog w).pyHash (k := xs.getD i Str.empty) (strKind_is _ _ _ _) ?_))
    refine wpAny_setAddHashed_of (knd := PySem.strKind prog w) (s := { s1 with toks := s1.toks + 1 }) (strKind_is _ _ _ _) rfl has1 (by omega) fun h2 same has2 => ?_
    have has3 : HasTo prog w h2 a xs (i + 1) := PyProof.Rows.SetOf_congr has2 (fun y => (any_take xs (by omega) y).symm) (by
      show _ = if (xs.take i).any (· == xs.getD i Str.empty) = true then cntS xs i else cntS xs i + 1
      rfl)
    have keep : ∀ b o, b ≠ a → s1.heap.get? b = some o → h2.get? b = some o := fun b o nb e => (same.2 b nb).trans e
    exact wpAny_pure ⟨plainId_quiet F.plain_set_update_loop _, fill W a out xs ln sm is left (i + 1) _ (by omega) lt
      (W.frame _ s1 _ _ st1 (Nat.le_succ _) fun b hb o e => keep b o (fun h => out (h ▸ hb)) e) has3 fun s3 mv3 has4 =>
        go s3 (Moved.trans W.gtrans ((mv.mono fun b hb => List.mem_cons_of_mem _ hb).then_heap (Nat.le_succ _) fun b o hb e => keep b o (fun h => hb (by rw [h]; exact List.mem_cons_self)) e) mv3) has4⟩
end
/-- a new empty set -/
abbrev noSet (led : Bool) : Obj := { cls := .type "set", dict := none, data := .set #[] 0 (.fresh 0 0 led) }
section
variable {prog : Program} {w : World} {A : Around} {E : Value → Shared → Prop} {s : Shared}
set_option maxHeartbeats 4000000 in
/-- set(xs), xs a list of texts -/
theorem call_set_L {l : Addr} {its : Array Value} {xs : List Str} {Q : Value → Shared → Prop} (cold : A.handled = none) (at1 : s.heap.IsList l its) (are : PyProof.Rows.StrsAre its.toList xs) (sm : xs.length ≤ 4000)
    (go : ∀ (h' : Heap) (tk : Nat), HasTo prog w h' s.heap.objs.size xs xs.length → (∀ b o, b < s.heap.objs.size → s.heap.get? b = some o → h'.get? b = some o) → Q (.ref s.heap.objs.size) { s with heap := h', toks := tk }) :
    wpAny (model prog w) A (call (.type "set") [.ref l]) Q E s := by
  have y1 := PySem.F.called_set.made
  have y2 := PySem.F.called_set.sub
  obtain ⟨cc, tl, y3⟩ := PySem.F.called_set.mro
  refine wpAny_call (codeAny_of_tree (id ?_))
  show wpAny _ _ (callAny (.type "set") _) _ _ _
  refine wpAny_pure (And.intro (Code.quiet_builtin _ (by decide +kernel)) (codeAny_builtin PySem.F.entry_type_call (id ?_)))
  rw [Around.under_plain (weight_type_call_type "set" [.ref l] []) rfl]
  have y4 := PySem.F.called_set.notType
  have y5 := PySem.F.called_set.canCreate
  have y6 := PySem.F.typeCall_set_1 (.ref l)
  repeat (any_goals (first | assumption | wp_step))
  refine codeAny_mono (code_set_new_1 (.ref l) (E := E) (Q₁ := fun v s1 => ∃ led : Bool, v = .ref s.heap.objs.size ∧ s1 = { s with heap := s.heap.push (noSet led) }) fun led => ⟨led, rfl, rfl⟩) fun r s1 z => ?_
  rcases r with e | (v | _ | _ | _) <;> first | exact z | exact z.elim | skip
  obtain ⟨led, rfl, rfl⟩ := z
  have at2 : (s.heap.push (noSet led)).get? s.heap.objs.size = some (noSet led) := Heap.get?_push_size _ rfl
  have ty : Shared.TypeIs { s with heap := s.heap.push (noSet led) } (.ref s.heap.objs.size) "set" := ⟨_, at2, rfl⟩
  have y7 := PySem.F.called_set.init.lookup
  have y8 := PySem.F.called_set.init.bind (.ref s.heap.objs.size)
  repeat (any_goals (first | assumption | wp_step))
  refine codeAny_mono (codeAny_call_builtin (R := wants (fun v s2 => v = .none ∧ ∃ h' tk, s2 = { s with heap := h', toks := tk } ∧ HasTo prog w h' s.heap.objs.size xs xs.length ∧ (∀ b o, b < s.heap.objs.size → s.heap.get? b = some o → h'.get? b = some o)) E)
    PySem.F.called_set.init.plain PySem.F.entry_set_init (check_set_init_1 ty (id ?_))) fun r s2 z => ?_
  · obtain ⟨⟨oc, od, ot, osl⟩, ol, c1, n1, d1⟩ := at1
    simp only at c1 d1
    subst c1 d1
    have lt : l < s.heap.objs.size := Heap.lt_size ol
    have at3 : (s.heap.push (noSet led)).get? l = some { cls := .type "list", dict := od, data := .seq its n1, slots := osl } := Heap.get?_push_of_some _ ol
    have z1 := PySem.F.sub_list_set
    have z2 := PySem.F.sub_list_frozenset
    have z3 : (Value.type "list" == Value.type "dict") = false := by decide
    have at4 : (s.heap.push (noSet led)).IsList l its := ⟨_, at3, rfl, n1, rfl⟩
    unfold Builtin.«set.__init__» noKeywords Builtin.Frozenset.updateFrom
    generalize ep : pyIter = iter
    wp_walk
    subst ep
    refine wpAny_pyIter_list at4 (wpAny_bind (wpAny_runValue (id ?_)))
    have cold3 : A.in1.in1.in1.handled = none := by simp [cold]
    have sz1 : (s.heap.push (noSet led)).objs.size = s.heap.objs.size + 1 := Heap.size_push _ _
    have n2 : l ≠ (s.heap.push (noSet led)).objs.size := by
      rw [sz1]
      exact Nat.ne_of_lt (Nat.lt_succ_of_lt lt)
    have n3 : s.heap.objs.size ∉ [(s.heap.push (noSet led)).objs.size, l] := by
      rw [sz1]
      simp only [List.mem_cons, List.not_mem_nil, or_false, not_or]
      exact ⟨Nat.ne_of_lt (Nat.lt_succ_self _), Nat.ne_of_gt lt⟩
    have ln : xs.length = its.size := by rw [← StrsAre.len_eq are, Array.length_toList]
    refine fill ((Walks.list cold3 _ l n2 its).toS) s.heap.objs.size n3 xs ln (by rw [← ln]; unfold scanBound; omega) (fun i v hv => SS.strs_at are i v (by rw [Array.getElem?_toList]; exact hv)) (its.size - 0) 0 _ (by omega) (Nat.zero_le _)
      ⟨⟨_, Heap.get?_push_size _ rfl, rfl, rfl⟩, at4.push _⟩ ?_ ?_
    · have at5 : ((s.heap.push (noSet led)).push { cls := .type "list_iterator", data := .fields #[.ref l, .int 0 0] }).get? s.heap.objs.size = some (noSet led) := Heap.get?_push_of_some _ at2
      exact PyProof.Rows.SetOf_congr ((PyProof.Rows.setObjOf_fresh (knd := PySem.strKind prog w) led).setOf at5 (by unfold scanBound; omega)) (fun _ => rfl) rfl
    · rintro ⟨h', g', d', tk', os'⟩ mv has
      obtain rfl : g' = s.gens := mv.gens
      obtain rfl : d' = s.drawn := mv.drawn
      obtain rfl : os' = s.os := mv.os
      show wpAny _ _ _ _ _ _
      refine wpAny_pure (id ?_)
      show wpAny _ _ (ret Value.none) _ _ _
      rw [← ln] at has
      refine wpAny_pure ⟨rfl, h', tk', rfl, has, fun b o hb e => mv.heap b o ?_ (Heap.get?_push_of_some _ (Heap.get?_push_of_some _ e))⟩
      simp only [List.mem_cons, List.not_mem_nil, or_false, not_or]
      exact ⟨Nat.ne_of_lt hb, by rw [sz1]; exact Nat.ne_of_lt (Nat.lt_succ_of_lt hb)⟩
  · rcases r with e | (v | _ | _ | _) <;> first | exact z | exact z.elim | skip
    obtain ⟨rfl, h', tk, rfl, has, keep⟩ := z
    repeat (any_goals (first | assumption | wp_step))
    exact go _ _ has keep
set_option maxHeartbeats 4000000 in
/-- set(xs), xs a tuple of texts -/
theorem call_set_T {l : Addr} {its : Array Value} {xs : List Str} {Q : Value → Shared → Prop} (cold : A.handled = none) (at1 : s.heap.IsTuple l its) (are : PyProof.Rows.StrsAre its.toList xs) (sm : xs.length ≤ 4000)
    (go : ∀ (h' : Heap) (tk : Nat), HasTo prog w h' s.heap.objs.size xs xs.length → (∀ b o, b < s.heap.objs.size → s.heap.get? b = some o → h'.get? b = some o) → Q (.ref s.heap.objs.size) { s with heap := h', toks := tk }) :
    wpAny (model prog w) A (call (.type "set") [.ref l]) Q E s := by
  have y1 := PySem.F.called_set.made
  have y2 := PySem.F.called_set.sub
  obtain ⟨cc, tl, y3⟩ := PySem.F.called_set.mro
  refine wpAny_call (codeAny_of_tree (id ?_))
  show wpAny _ _ (callAny (.type "set") _) _ _ _
  refine wpAny_pure (And.intro (Code.quiet_builtin _ (by decide +kernel)) (codeAny_builtin PySem.F.entry_type_call (id ?_)))
  rw [Around.under_plain (weight_type_call_type "set" [.ref l] []) rfl]
  have y4 := PySem.F.called_set.notType
  have y5 := PySem.F.called_set.canCreate
  have y6 := PySem.F.typeCall_set_1 (.ref l)
  repeat (any_goals (first | assumption | wp_step))
  refine codeAny_mono (code_set_new_1 (.ref l) (E := E) (Q₁ := fun v s1 => ∃ led : Bool, v = .ref s.heap.objs.size ∧ s1 = { s with heap := s.heap.push (noSet led) }) fun led => ⟨led, rfl, rfl⟩) fun r s1 z => ?_
  rcases r with e | (v | _ | _ | _) <;> first | exact z | exact z.elim | skip
  obtain ⟨led, rfl, rfl⟩ := z
  have at2 : (s.heap.push (noSet led)).get? s.heap.objs.size = some (noSet led) := Heap.get?_push_size _ rfl
  have ty : Shared.TypeIs { s with heap := s.heap.push (noSet led) } (.ref s.heap.objs.size) "set" := ⟨_, at2, rfl⟩
  have y7 := PySem.F.called_set.init.lookup
  have y8 := PySem.F.called_set.init.bind (.ref s.heap.objs.size)
  repeat (any_goals (first | assumption | wp_step))
  refine codeAny_mono (codeAny_call_builtin (R := wants (fun v s2 => v = .none ∧ ∃ h' tk, s2 = { s with heap := h', toks := tk } ∧ HasTo prog w h' s.heap.objs.size xs xs.length ∧ (∀ b o, b < s.heap.objs.size → s.heap.get? b = some o → h'.get? b = some o)) E)
    PySem.F.called_set.init.plain PySem.F.entry_set_init (check_set_init_1 ty (id ?_))) fun r s2 z => ?_
  · obtain ⟨⟨oc, od, ot, osl⟩, ol, c1, n1, d1⟩ := at1
    simp only at c1 d1
    subst c1 d1
    have lt : l < s.heap.objs.size := Heap.lt_size ol
    have at3 : (s.heap.push (noSet led)).get? l = some { cls := .type "tuple", dict := od, data := .seq its n1, slots := osl } := Heap.get?_push_of_some _ ol
    have z1 := PySem.F.sub_tuple_set
    have z2 := PySem.F.sub_tuple_frozenset
    have z3 : (Value.type "tuple" == Value.type "dict") = false := by decide
    have at4 : (s.heap.push (noSet led)).IsTuple l its := ⟨_, at3, rfl, n1, rfl⟩
    unfold Builtin.«set.__init__» noKeywords Builtin.Frozenset.updateFrom
    generalize ep : pyIter = iter
    wp_walk
    subst ep
    refine wpAny_pyIter_tuple at4 (wpAny_bind (wpAny_runValue (id ?_)))
    have cold3 : A.in1.in1.in1.handled = none := by simp [cold]
    have sz1 : (s.heap.push (noSet led)).objs.size = s.heap.objs.size + 1 := Heap.size_push _ _
    have n2 : l ≠ (s.heap.push (noSet led)).objs.size := by
      rw [sz1]
      exact Nat.ne_of_lt (Nat.lt_succ_of_lt lt)
    have n3 : s.heap.objs.size ∉ [(s.heap.push (noSet led)).objs.size, l] := by
      rw [sz1]
      simp only [List.mem_cons, List.not_mem_nil, or_false, not_or]
      exact ⟨Nat.ne_of_lt (Nat.lt_succ_self _), Nat.ne_of_gt lt⟩
    have ln : xs.length = its.size := by rw [← StrsAre.len_eq are, Array.length_toList]
    refine fill ((Walks.tuple cold3 _ l n2 its).toS) s.heap.objs.size n3 xs ln (by rw [← ln]; unfold scanBound; omega) (fun i v hv => SS.strs_at are i v (by rw [Array.getElem?_toList]; exact hv)) (its.size - 0) 0 _ (by omega) (Nat.zero_le _)
      ⟨⟨_, Heap.get?_push_size _ rfl, rfl, rfl⟩, at4.push _⟩ ?_ ?_
    · have at5 : ((s.heap.push (noSet led)).push { cls := .type "tuple_iterator", data := .fields #[.ref l, .int 0 0] }).get? s.heap.objs.size = some (noSet led) := Heap.get?_push_of_some _ at2
      exact PyProof.Rows.SetOf_congr ((PyProof.Rows.setObjOf_fresh (knd := PySem.strKind prog w) led).setOf at5 (by unfold scanBound; omega)) (fun _ => rfl) rfl
    · rintro ⟨h', g', d', tk', os'⟩ mv has
      obtain rfl : g' = s.gens := mv.gens
      obtain rfl : d' = s.drawn := mv.drawn
      obtain rfl : os' = s.os := mv.os
      show wpAny _ _ _ _ _ _
      refine wpAny_pure (id ?_)
      show wpAny _ _ (ret Value.none) _ _ _
      rw [← ln] at has
      refine wpAny_pure ⟨rfl, h', tk', rfl, has, fun b o hb e => mv.heap b o ?_ (Heap.get?_push_of_some _ (Heap.get?_push_of_some _ e))⟩
      simp only [List.mem_cons, List.not_mem_nil, or_false, not_or]
      exact ⟨Nat.ne_of_lt hb, by rw [sz1]; exact Nat.ne_of_lt (Nat.lt_succ_of_lt hb)⟩
  · rcases r with e | (v | _ | _ | _) <;> first | exact z | exact z.elim | skip
    obtain ⟨rfl, h', tk, rfl, has, keep⟩ := z
    repeat (any_goals (first | assumption | wp_step))
    exact go _ _ has keep
end
end MyS

namespace My
open PySem PySem.Spec PyProof.Rows L2 MyS
/-- len(set(xs)), xs a list or a tuple of texts -/
def tLenSetS (K : PySem.W.Frag) (ta : TE) : TE := fun σ H Q => ta σ H fun x H1 => ∃ (l : Addr) (xs : List Str), x = .ref l ∧ SqS K H1 l (xs.map V.str) ∧ xs.length ≤ 4000 ∧ Q (.int (cntS xs xs.length : Nat)) H1
theorem pe_lenSetS {X : Cx} {a : Expr} {ta : TE} {p p2 q pos : Pos} (hg : Gl X "len") (hm : X.mg "len" = none) (hg2 : Gl X "set") (hm2 : X.mg "set" = none) (ha : PE X a ta) (calm : X.calm = true := by rfl)
    (na : starEach [a] X.env = (false, eval a X.env) :: starEach [] X.env := by rfl) : PE X (.Call (.Name "len" p) [.Call (.Name "set" p2) [a] [] q] [] pos) (tLenSetS X.K ta) := by
  refine ⟨fun pins s σ H Q I h => Call_ (ld_blt I hg hm boot_len (PyProof.Rows.callWith_builtin1 (PyProof.Rows.args_cons ?_ rfl) rfl rfl))⟩
  refine Call_ (ld_blt I hg2 hm2 (by decide +kernel : bootBuiltins "set" = some (.type "set")) (PyProof.Rows.callWith_type1 (PyProof.Rows.args_cons (thn (ha.run pins s σ H _ I h) fun v s1 z => PyProof.Rows.args_nil ?_) na) na rfl))
  obtain ⟨_, H1, I1, rv, l, xs, rfl, hs, sm, q⟩ := z
  cases rv
  have fin : ∀ (h' : Heap) (tk : Nat), HasTo X.prog X.w h' s1.heap.objs.size xs xs.length → (∀ b o, b < s1.heap.objs.size → s1.heap.get? b = some o → h'.get? b = some o) →
      wpAny (model X.prog X.w) X.A (spliced (backTo pos (starEach [] X.env))) (fun vs s₂ => wpAny (model X.prog X.w) X.A (call (.builtin "len") (Value.ref s1.heap.objs.size :: vs)) (EP X pins σ Q) X.xe s₂) X.xe { s1 with heap := h', toks := tk } := fun h' tk has keep => by
    obtain ⟨o, es, ep, t, ho, ex, hd, _, _, _, hf, hn⟩ := has
    have cl := cntS_le xs xs.length
    have I2 : Inv X pins σ H1 { s1 with heap := h', toks := tk } := I1.kept fun b o e => keep b o (Heap.lt_size e) e
    exact PyProof.Rows.args_nil (call_len_set ho ex hd hf (by rw [hn]; omega) ⟨.int (cntS xs xs.length : Nat), H1, I2.tok _, ⟨_, by rw [hn]⟩, q⟩)
  rcases hs with hs | hs
  · obtain ⟨its, r, pl, hz⟩ := I1.list hs
    exact call_set_L (I1.ok.hd calm) pl.isList (by simpa using L2.strsAre_of r) sm fun h' tk has keep => fin h' tk has keep
  · obtain ⟨its, r, pl, hz⟩ := I1.tuple hs
    exact call_set_T (I1.ok.hd calm) pl (by simpa using L2.strsAre_of r) sm fun h' tk has keep => fin h' tk has keep
end My

namespace My
open PySem PySem.Spec PyProof.Rows L2
def topS (i : Nat) : Stmt := PySem.Challenge.pw_waitworks_k10_modules_refused.main.body.getD i (.Pass ⟨0, 0, 0, 0⟩)
/-- what of the built-in names is still built-in -/
structure Txt (mg : Str → Option Value) : Prop where
  max : mg "max" = none
  min : mg "min" = none
  int : mg "int" = none
  len : mg "len" = none
  abs : mg "abs" = none
  range : mg "range" = none
  isinstance : mg "isinstance" = none
  bool : mg "bool" = none
  str : mg "str" = none
  list : mg "list" = none
  tuple : mg "tuple" = none
  all : mg "all" = none
  any : mg "any" = none
  set : mg "set" = none
  dict : mg "dict" = none
end My

namespace My
open PySem PySem.Spec PyProof.Rows L2
local macro_rules | `(tactic| walk_at "side") => `(tactic| first | (dsimp only; omega) | exact ⟨by omega, by omega⟩ | exact Or.inl ⟨by omega, by omega⟩ | exact Or.inr ⟨by omega, by omega⟩ | decide)
local macro_rules | `(tactic| walk_at "sq") => `(tactic| first | assumption | exact SqL.of (by assumption) | exact SqT.of (by assumption) | (refine L2.Same.seq (by assumption) ?_; walk_at "sq") | (refine L2.Same.seqT (by assumption) ?_; walk_at "sq") | exact Or.inl (by walk_at "sq") | exact Or.inr (by walk_at "sq"))
local macro_rules | `(tactic| walk_at "1") => `(tactic| first
  | refine ⟨_, rfl, iteT ?_⟩
  | refine ⟨_, rfl, iteF ?_⟩
  | refine ⟨_, rfl, ?_⟩
  | refine ⟨_, _, rfl, rfl, (by walk_at "side"), ?_⟩
  | refine ⟨_, _, rfl, rfl, ?_⟩
  | refine ⟨_, _, _, _, true, rfl, .ty _, .base (.int _), kit_ty (a := "int") (by decide +kernel), ?_⟩
  | refine ⟨_, _, _, _, false, rfl, .ty _, .base (.int _), kit_ty (a := "int") (by decide +kernel), ?_⟩
  | refine ⟨_, _, rfl, (by walk_at "sq"), ?_⟩
  | refine ⟨_, _, _, _, rfl, rfl, (by walk_at "sq"), (by first | rfl | assumption), ?_⟩
  | refine Or.inl ⟨_, _, _, _, rfl, rfl, (by walk_at "sq"), (by first | rfl | assumption), ?_⟩
  | refine Or.inr (Or.inl ⟨_, _, _, _, rfl, rfl, (by walk_at "sq"), (by first | rfl | assumption), ?_⟩)
  | refine ⟨_, _, rfl, Or.inl ⟨(by walk_at "sq"), ?_⟩⟩
  | refine ⟨rfl, ?_⟩
  | refine iteT ?_
  | refine iteF ?_
  | refine ⟨_, _, _, _, _, rfl, (by assumption), (by assumption), (by assumption), (by assumption), ?_⟩
  | refine Or.inl ⟨_, rfl, ?_⟩
  | refine Or.inr ⟨_, rfl, ?_⟩
  | refine ⟨_, _, rfl, (by walk_at "side"), ?_⟩
  | refine ⟨_, _, rfl, ?_⟩)
local macro_rules | `(tactic| walk_at "fld") => `(tactic| skip)
local macro_rules | `(tactic| walk_at "s") => `(tactic| repeat walk_at "1")
local macro_rules | `(tactic| walk_at "size") => `(tactic| first | exact Nat.le_of_ble_eq_true rfl | (simp only [List.length_map, List.length_append, List.length_cons, List.length_nil]; omega))
local macro_rules | `(tactic| walk_at "new") => `(tactic| (first | refine ⟨(by walk_at "size"), fun p hp => ?_⟩ | refine fun p hp => ?_); (generalize hq : upd _ p _ = H1); (obtain ⟨s, e⟩ := new_facts hp hq); clear hq)

/-- a check of one thing -/
def spD (f : PyData → Bool) : Sp := fun vs H Q _ => ∃ (v : V) (d : PyData), vs = [v] ∧ Dv H v d ∧ ∀ H', Same H H' → Q (.bl (f d)) H'
section
variable {P : Program} {w : World} {K : PySem.W.Frag} {mg : Str → Option Value} {base : Heap}
abbrev s_is_integer : Stmt := topS 8
theorem sc_is_integer : FnScope ["value"] ["value"] (defScope s_is_integer) := ⟨rfl, rfl, rfl, by decide +kernel, rfl, by decide +kernel, by decide +kernel⟩
theorem ok_is_integer (D : Df K mg "is_integer" s_is_integer ["value"]) (T : Txt mg) : Own P w K mg base "is_integer" 1 ["value"] (spD isIntD) := by
  refine D.own sc_is_integer (fun vs H Q E h => ?_) (fun f cdv A outer s H vs Q E hr h => ?_)
  · obtain ⟨_, _, rfl, _⟩ := h
    rfl
  · obtain ⟨v, d, rfl, hv, k⟩ := h
    refine ⟨_, (pss_one (ps_ret (pe_and (pe_callB call_isi (by rfl) T.isinstance (by decide +kernel) (pa_cons (pv 0) (pa_cons (pe_bltn (v := .ty "int") (u := .type "int") (by rfl) T.int (by decide +kernel) rfl) pa_nil))) (pe_one (pe_not (pe_callB call_isi (by rfl) T.isinstance (by decide +kernel) (pa_cons (pv 0) (pa_cons (pe_bltn (v := .ty "bool") (u := .type "bool") (by rfl) T.bool (by decide +kernel) rfl) pa_nil)))))))), ?_⟩
    refine ⟨_, rfl, _, _, _, _, _, rfl, .ty _, hv.ty, kit_ty (kb_int d), _, rfl, ?_⟩
    cases d with
    | int i =>
      refine iteT ?_
      exact ⟨_, rfl, _, _, _, _, _, rfl, .ty _, hv.ty, kit_ty (kb_bool _), false, rfl, k _ (Same.refl _)⟩
    | bool b =>
      refine iteT ?_
      exact ⟨_, rfl, _, _, _, _, _, rfl, .ty _, hv.ty, kit_ty (kb_bool _), true, rfl, k _ (Same.refl _)⟩
    | _ =>
      refine iteF ?_
      exact k _ (Same.refl _)
abbrev s_is_number : Stmt := topS 9
theorem sc_is_number : FnScope ["value"] ["value"] (defScope s_is_number) := ⟨rfl, rfl, rfl, by decide +kernel, rfl, by decide +kernel, by decide +kernel⟩
theorem ok_is_number (D : Df K mg "is_number" s_is_number ["value"]) (o_is_integer : Own P w K mg base "is_integer" 1 ["value"] (spD isIntD)) : Own P w K mg base "is_number" 2 ["value"] (spD isNumD) := by
  refine D.own sc_is_number (fun vs H Q E h => ?_) (fun f cdv A outer s H vs Q E hr h => ?_)
  · obtain ⟨_, _, rfl, _⟩ := h
    rfl
  · obtain ⟨v, d, rfl, hv, k⟩ := h
    refine ⟨_, (pss_one (ps_ret (pe_and (pe_own o_is_integer (hr.mono (by decide)) (pa_cons (pv 0) pa_nil)) (pe_one (pe_cmpR op_ge (pv 0) pe_int (nomark _)))))), ?_⟩
    refine ⟨_, rfl, _, d, rfl, hv, fun H1 s1 => ⟨_, rfl, ?_⟩⟩
    cases d with
    | int i =>
      cases hv
      refine iteT ?_
      exact ⟨_, rfl, _, _, rfl, rfl, k _ s1⟩
    | _ =>
      refine iteF ?_
      exact k _ s1
abbrev s_is_sequence : Stmt := topS 10
theorem sc_is_sequence : FnScope ["value"] ["value"] (defScope s_is_sequence) := ⟨rfl, rfl, rfl, by decide +kernel, rfl, by decide +kernel, by decide +kernel⟩
theorem ok_is_sequence (D : Df K mg "is_sequence" s_is_sequence ["value"]) (T : Txt mg) : Own P w K mg base "is_sequence" 1 ["value"] (spD isSeqD) := by
  refine D.own sc_is_sequence (fun vs H Q E h => ?_) (fun f cdv A outer s H vs Q E hr h => ?_)
  · obtain ⟨_, _, rfl, _⟩ := h
    rfl
  · obtain ⟨v, d, rfl, hv, k⟩ := h
    refine ⟨_, (pss_one (ps_ret (pe_callB call_isiT (by rfl) T.isinstance (by decide +kernel) (pa_cons (pv 0) (pa_cons (pe_tup (pa_cons (pe_bltn (v := .ty "list") (by rfl) T.list (by decide +kernel) rfl) (pa_cons (pe_bltn (v := .ty "tuple") (by rfl) T.tuple (by decide +kernel) rfl) pa_nil))) pa_nil))))), ?_⟩
    refine ⟨_, rfl, Nat.le_of_ble_eq_true rfl, fun p np => ?_⟩
    generalize hq : upd H p _ = H1
    obtain ⟨s1, e1⟩ := new_facts np hq
    exact rd_seq (hv.same s1) e1 (k _ s1)
abbrev s_is_tuple_of : Stmt := topS 11
theorem sc_is_tuple_of : FnScope ["value", "many"] ["value", "many"] (defScope s_is_tuple_of) := ⟨rfl, rfl, rfl, by decide +kernel, rfl, by decide +kernel, by decide +kernel⟩
def spTupOf : Sp := fun vs H Q _ => ∃ (v : V) (d : PyData) (n : Int), vs = [v, .int n] ∧ Dv H v d ∧ ∀ H', Same H H' → Q (.bl (isTupND n d)) H'
theorem ok_is_tuple_of (D : Df K mg "is_tuple_of" s_is_tuple_of ["value", "many"]) (T : Txt mg) : Own P w K mg base "is_tuple_of" 1 ["value", "many"] spTupOf := by
  refine D.own sc_is_tuple_of (fun vs H Q E h => ?_) (fun f cdv A outer s H vs Q E hr h => ?_)
  · obtain ⟨_, _, _, rfl, _⟩ := h
    rfl
  · obtain ⟨v, d, n, rfl, hv, k⟩ := h
    refine ⟨_, (pss_one (ps_ret (pe_and (pe_callB call_isi (by rfl) T.isinstance (by decide +kernel) (pa_cons (pv 0) (pa_cons (pe_bltn (v := .ty "tuple") (u := .type "tuple") (by rfl) T.tuple (by decide +kernel) rfl) pa_nil))) (pe_one (pe_cmpR op_eq (pe_callB call_len_seq (by rfl) T.len PySem.boot_len (pa_cons (pv 0) pa_nil)) (pv 1) (nomark _)))))), ?_⟩
    refine ⟨_, rfl, _, _, _, _, _, rfl, .ty _, hv.ty, kit_ty (kb_tuple d), _, rfl, ?_⟩
    cases d with
    | tuple ds =>
      cases hv with
      | @tup a xs _ e h sm =>
        refine iteT ?_
        refine ⟨_, rfl, a, xs, rfl, Or.inr (SqT.of e), _, rfl, rfl, ?_⟩
        have := k H (Same.refl _)
        rw [show (decide (V.int (xs.length : Int) = V.int n)) = isTupND n (.tuple ds) by
          rw [h.len]
          exact decide_eq_decide.mpr ⟨V.int.inj, fun q => by rw [q]⟩]
        exact this
    | _ =>
      refine iteF ?_
      exact k _ (Same.refl _)
abbrev s_is_link : Stmt := topS 13
theorem sc_is_link : FnScope ["value", "first", "then", "marks", "lasts"] ["value"] (defScope s_is_link) := ⟨rfl, rfl, rfl, by decide +kernel, rfl, by decide +kernel, by decide +kernel⟩
theorem isTupN4 {d : PyData} (h : isTupND 4 d = true) : ∃ a b c e, d = .tuple [a, b, c, e] := by
  cases d with
  | tuple ds =>
    have l : (ds.length : Int) = 4 := of_decide_eq_true h
    match ds, l with
    | [a, b, c, e], _ => exact ⟨a, b, c, e, rfl⟩
    | [], l => simp at l
    | [_], l => simp at l
    | [_, _], l => simp at l
    | [_, _, _], l => simp at l
    | _ :: _ :: _ :: _ :: _ :: r, l => simp only [List.length_cons] at l; omega
  | _ => cases h
theorem isLink_no {d : PyData} (h : isTupND 4 d = false) : isLinkD d = false := by
  cases d with
  | tuple ds =>
    match ds with
    | [a, b, c, e] => exact absurd h (by simp [isTupND])
    | [] => rfl
    | [_] => rfl
    | [_, _] => rfl
    | [_, _, _] => rfl
    | _ :: _ :: _ :: _ :: _ :: _ => rfl
  | _ => rfl
set_option maxHeartbeats 4000000 in
theorem ok_is_link (D : Df K mg "is_link" s_is_link ["value"]) (T : Txt mg) (o_is_tuple_of : Own P w K mg base "is_tuple_of" 1 ["value", "many"] spTupOf) (o_is_number : Own P w K mg base "is_number" 2 ["value"] (spD isNumD)) : Own P w K mg base "is_link" 3 ["value"] (spD isLinkD) := by
  refine D.own sc_is_link (fun vs H Q E h => ?_) (fun f cdv A outer s H vs Q E hr h => ?_)
  · obtain ⟨_, _, rfl, _⟩ := h
    rfl
  · obtain ⟨v, d, rfl, hv, k⟩ := h
    refine ⟨_, (pss_cons (ps_if (pt_not (pt_val (pe_own o_is_tuple_of (hr.mono (by decide)) (pa_cons (pv 0) (pa_cons pe_int pa_nil)))))
    (pss_one (ps_ret pe_bl))
    pss_nil)
  (pss_cons (ps_asg (pv 0) (pg_tup (by rfl) (pgs_cons (pg_name (i := 1) sc_is_link.nd rfl (Or.inl rfl)) (pgs_cons (pg_name (i := 2) sc_is_link.nd rfl (Or.inl rfl)) (pgs_cons (pg_name (i := 3) sc_is_link.nd rfl (Or.inl rfl)) (pgs_cons (pg_name (i := 4) sc_is_link.nd rfl (Or.inl rfl)) pgs_nil))))))
  (pss_one (ps_ret (pe_and (pe_callB call_isi (by rfl) T.isinstance (by decide +kernel) (pa_cons (pv 1) (pa_cons (pe_bltn (v := .ty "str") (u := .type "str") (by rfl) T.str (by decide +kernel) rfl) pa_nil))) (pe_and (pe_callB call_isi (by rfl) T.isinstance (by decide +kernel) (pa_cons (pv 2) (pa_cons (pe_bltn (v := .ty "str") (u := .type "str") (by rfl) T.str (by decide +kernel) rfl) pa_nil))) (pe_and (pe_own o_is_number (hr.mono (by decide)) (pa_cons (pv 3) pa_nil)) (pe_one (pe_own o_is_number (hr.mono (by decide)) (pa_cons (pv 4) pa_nil)))))))))), ?_⟩
    refine ⟨_, rfl, v, d, 4, rfl, hv, fun H1 s1 => ⟨_, rfl, ?_⟩⟩
    cases ht : isTupND 4 d with
    | false =>
      refine iteT ?_
      rw [← isLink_no ht]
      exact k _ s1
    | true =>
      refine iteF ?_
      obtain ⟨a, b, c, e, rfl⟩ := isTupN4 ht
      have hv1 := hv.same s1
      cases hv1 with
      | @tup p xs _ ep hx sm =>
        obtain ⟨x1, ys, rfl, d1, hx⟩ := hx.inv
        obtain ⟨x2, ys, rfl, d2, hx⟩ := hx.inv
        obtain ⟨x3, ys, rfl, d3, hx⟩ := hx.inv
        obtain ⟨x4, ys, rfl, d4, hx⟩ := hx.inv
        obtain rfl := hx.inv0
        have go : ∀ {b' : Bool} {H'}, Same H1 H' → b' = isLinkD (.tuple [a, b, c, e]) → Q (.bl b') H' := fun {b' H'} s e => by
          rw [e]
          exact k _ (s1.trans s)
        have el : isLinkD (.tuple [a, b, c, e]) = (isStrD a && (isStrD b && (isNumD c && isNumD e))) := rfl
        refine ⟨_, rfl, p, _, rfl, SqT.of ep, rfl, _, _, rfl, _, _, rfl, _, _, rfl, _, _, rfl, rfl, ?_⟩
        refine ⟨_, rfl, _, _, _, _, _, rfl, .ty _, d1.ty, kit_ty (kb_str a), _, rfl, ?_⟩
        cases h1 : isStrD a with
        | false =>
          refine iteF ?_
          exact go (Same.refl _) (by rw [el, h1]; rfl)
        | true =>
          refine iteT ?_
          refine ⟨_, rfl, _, _, _, _, _, rfl, .ty _, d2.ty, kit_ty (kb_str b), _, rfl, ?_⟩
          cases h2 : isStrD b with
          | false =>
            refine iteF ?_
            exact go (Same.refl _) (by rw [el, h1, h2]; rfl)
          | true =>
            refine iteT ?_
            refine ⟨_, rfl, _, c, rfl, d3, fun H2 s2 => ⟨_, rfl, ?_⟩⟩
            cases h3 : isNumD c with
            | false =>
              refine iteF ?_
              exact go s2 (by rw [el, h1, h2, h3]; rfl)
            | true =>
              refine iteT ?_
              refine ⟨_, rfl, _, e, rfl, d4.same s2, fun H3 s3 => ?_⟩
              exact go (s2.trans s3) (by rw [el, h1, h2, h3]; rfl)
theorem low_mem (c : Nat) : decide (c ∈ (("abcdefghijklmnopqrstuvwxyz" : Str)).cps.toList) = isLow c := by
  have e : (("abcdefghijklmnopqrstuvwxyz" : Str)).cps.toList = [97, 98, 99, 100, 101, 102, 103, 104, 105, 106, 107, 108, 109, 110, 111, 112, 113, 114, 115, 116, 117, 118, 119, 120, 121, 122] := by decide
  rw [e]
  unfold isLow
  rw [← Bool.decide_and]
  refine decide_eq_decide.mpr ?_
  simp only [List.mem_cons, List.not_mem_nil, or_false]
  omega
abbrev s_is_name : Stmt := topS 12
theorem sc_is_name : FnScope ["value", "letter"] ["value"] (defScope s_is_name) := ⟨rfl, rfl, rfl, by decide +kernel, rfl, by decide +kernel, by decide +kernel⟩
set_option maxHeartbeats 4000000 in
theorem ok_is_name (D : Df K mg "is_name" s_is_name ["value"]) (T : Txt mg) (gL : ∃ t, mg "LETTERS" = some (.str "abcdefghijklmnopqrstuvwxyz" t)) : Own P w K mg base "is_name" 1 ["value"] (spD isNameD) := by
  obtain ⟨tL, gL⟩ := gL
  refine D.own sc_is_name (fun vs H Q E h => ?_) (fun f cdv A outer s H vs Q E hr h => ?_)
  · obtain ⟨_, _, rfl, _⟩ := h
    rfl
  · obtain ⟨v, d, rfl, hv, k⟩ := h
    refine ⟨_, (pss_cons (ps_if (PW.pt (pw_or (pt_not (pt_val (pe_callB call_isi (by rfl) T.isinstance (by decide +kernel) (pa_cons (pv 0) (pa_cons (pe_bltn (v := .ty "str") (u := .type "str") (by rfl) T.str (by decide +kernel) rfl) pa_nil))))) (pw_or1 (pt_not (pt_chain op_le op_le pe_int (pe_callB call_len_str (by rfl) T.len PySem.boot_len (pa_cons (pv 0) pa_nil)) pe_int)))))
    (pss_one (ps_ret pe_bl))
    pss_nil)
  (pss_one (ps_ret (pe_callB (cr_all rfl) (by rfl) T.all (by decide +kernel) (pa_cons (pe_lc (own := [("letter", 1)]) (g := gName 1) (tt := tYes) rfl sc_is_name.nd (pi_str (pv 0)) (blkOk_by (own := [("letter", 1)]) (N := ["value", "letter"]) (sc := defScope s_is_name) (by decide +kernel)) (fun _ _ _ _ _ => (pg_name (i := 1) sc_is_name.nd rfl (Or.inl rfl))) (fun _ _ _ _ _ => pts_nil) (fun _ _ _ _ _ => (pe_cmpR op_in_sign (pv 1) (pe_glob (v := .str "abcdefghijklmnopqrstuvwxyz") rfl gL ⟨tL, rfl⟩) (by rfl)))) pa_nil))))), ?_⟩
    refine ⟨_, rfl, _, _, _, _, _, rfl, .ty _, hv.ty, kit_ty (kb_str d), _, rfl, ?_⟩
    cases hv with
    | @str x hx =>
      have hl : x.length ≤ 1000 := of_decide_eq_true (Bool.and_eq_true_iff.mp hx).2
      have hle : x.length ≤ sizeLine := Nat.le_of_lt (small1000 hl)
      have hxl : x.cps.toList.length = x.length := by
        rw [Array.length_toList]
        rfl
      refine iteF ?_
      have kk : ∀ H', Same H H' → Q (.bl (nameS x)) H' := k
      refine ⟨_, rfl, x, rfl, hle, _, _, rfl, rfl, _, rfl, ?_⟩
      by_cases h1 : 1 ≤ x.length
      · rw [decide_eq_true (show (1 : Int) ≤ (x.length : Int) by omega)]
        refine iteT ?_
        refine ⟨_, _, rfl, rfl, _, rfl, ?_⟩
        by_cases h5 : x.length ≤ 5
        · rw [decide_eq_true (show (x.length : Int) ≤ 5 by omega)]
          refine iteF ?_
          generalize hcs : x.cps.toList = cs at hxl
          refine ⟨_, rfl, x, rfl, fun L nL => lc_it walk_str (LcP H L fun i => (cs[i]?).map fun c => V.bl (isLow c)) (LcP.zero nL) (fun _ _ _ _ => trivial) ?_ ?_⟩
          · rintro i y H1 H2 hi p ⟨rfl, c, hc, rfl⟩
            have hc' : cs[i]? = some c := by
              rw [← hcs]
              simpa using hc
            have hi2 : i < cs.length := (List.getElem?_eq_some_iff.mp hc').1
            walk_at "s"
            rw [low_mem]
            exact p.yes (Same.refl _) nL (small1000 (by omega)) (by rw [hc']; rfl)
          · intro H1 p
            have e := p.lst
            have hsz : x.cps.size = cs.length := by rw [← hcs]; exact (Array.length_toList).symm
            rw [hsz, fm_get] at e
            refine ⟨L, cs.map isLow, rfl, SqL.of (by rw [e, List.map_map]; rfl), ?_⟩
            have e2 : (cs.map isLow).all id = nameS x := by
              unfold nameS
              rw [decide_eq_true h1, decide_eq_true h5, hcs, List.all_map]
              rfl
            rw [e2]
            exact kk _ p.same
        · rw [decide_eq_false (show ¬ (x.length : Int) ≤ 5 by omega)]
          refine iteT ?_
          have e2 : nameS x = false := by
            unfold nameS
            rw [decide_eq_false h5]
            simp
          rw [e2] at kk
          exact kk _ (Same.refl _)
      · rw [decide_eq_false (show ¬ (1 : Int) ≤ (x.length : Int) by omega)]
        refine iteF ?_
        refine ⟨false, rfl, ?_⟩
        refine iteT ?_
        have e2 : nameS x = false := by
          unfold nameS
          rw [decide_eq_false h1]
          rfl
        rw [e2] at kk
        exact kk _ (Same.refl _)
    | _ =>
      refine iteT ?_
      refine iteT ?_
      exact k _ (Same.refl _)
end
end My

namespace My
open PySem PySem.Spec PyProof.Rows L2
local macro_rules | `(tactic| walk_at "side") => `(tactic| first | (dsimp only; omega) | exact ⟨by omega, by omega⟩ | exact Or.inl ⟨by omega, by omega⟩ | exact Or.inr ⟨by omega, by omega⟩ | decide)
local macro_rules | `(tactic| walk_at "sq") => `(tactic| first | assumption | exact SqL.of (by assumption) | exact SqT.of (by assumption) | (refine L2.Same.seq (by assumption) ?_; walk_at "sq") | (refine L2.Same.seqT (by assumption) ?_; walk_at "sq") | exact Or.inl (by walk_at "sq") | exact Or.inr (by walk_at "sq"))
local macro_rules | `(tactic| walk_at "1") => `(tactic| first
  | refine ⟨_, rfl, iteT ?_⟩
  | refine ⟨_, rfl, iteF ?_⟩
  | refine ⟨_, rfl, ?_⟩
  | refine ⟨_, _, rfl, rfl, (by walk_at "side"), ?_⟩
  | refine ⟨_, _, rfl, rfl, ?_⟩
  | refine ⟨_, _, _, _, true, rfl, .ty _, .base (.int _), kit_ty (a := "int") (by decide +kernel), ?_⟩
  | refine ⟨_, _, _, _, false, rfl, .ty _, .base (.int _), kit_ty (a := "int") (by decide +kernel), ?_⟩
  | refine ⟨_, _, rfl, (by walk_at "sq"), ?_⟩
  | refine ⟨_, _, _, _, rfl, rfl, (by walk_at "sq"), (by first | rfl | assumption), ?_⟩
  | refine Or.inl ⟨_, _, _, _, rfl, rfl, (by walk_at "sq"), (by first | rfl | assumption), ?_⟩
  | refine Or.inr (Or.inl ⟨_, _, _, _, rfl, rfl, (by walk_at "sq"), (by first | rfl | assumption), ?_⟩)
  | refine ⟨_, _, rfl, Or.inl ⟨(by walk_at "sq"), ?_⟩⟩
  | refine ⟨rfl, ?_⟩
  | refine iteT ?_
  | refine iteF ?_
  | refine ⟨_, _, _, _, _, rfl, (by assumption), (by assumption), (by assumption), (by assumption), ?_⟩
  | refine Or.inl ⟨_, rfl, ?_⟩
  | refine Or.inr ⟨_, rfl, ?_⟩
  | refine ⟨_, _, rfl, (by walk_at "side"), ?_⟩
  | refine ⟨_, _, rfl, ?_⟩)
local macro_rules | `(tactic| walk_at "fld") => `(tactic| skip)
local macro_rules | `(tactic| walk_at "s") => `(tactic| repeat walk_at "1")
local macro_rules | `(tactic| walk_at "size") => `(tactic| first | exact Nat.le_of_ble_eq_true rfl | (simp only [List.length_map, List.length_append, List.length_cons, List.length_nil]; omega))
local macro_rules | `(tactic| walk_at "new") => `(tactic| (first | refine ⟨(by walk_at "size"), fun p hp => ?_⟩ | refine fun p hp => ?_); (generalize hq : upd _ p _ = H1); (obtain ⟨s, e⟩ := new_facts hp hq); clear hq)

open MyS
theorem small1000_2 {n : Nat} (h : n ≤ 4000) : n < sizeLine := Nat.lt_of_le_of_lt h (by decide)
/-! ## what is free, labels, calls, ends, links -/
/-- the texts of data -/
def strsD (ds : List PyData) : List Str := ds.filterMap fun d => match d with
  | .str x => some x
  | _ => none
/-- all are names, no two alike, none taken -/
def areFree (ds : List PyData) (ts : List Str) : Bool := ds.all isNameD && (decide (strsD ds).Nodup && !(strsD ds).any fun x => decide (x ∈ ts))
theorem names_str {H : Hp} : ∀ {ds : List PyData} {xs : List V}, DvAll H xs ds → ds.all isNameD = true → xs = (strsD ds).map V.str ∧ ds = (strsD ds).map PyData.str
  | [], _, h, _ => by
    rw [h.inv0]
    exact ⟨rfl, rfl⟩
  | d :: ds, _, h, a => by
    obtain ⟨x, ys, rfl, hx, t⟩ := h.inv
    obtain ⟨a1, a2⟩ := Bool.and_eq_true_iff.mp (show (isNameD d && ds.all isNameD) = true from a)
    obtain ⟨e1, e2⟩ := names_str t a2
    cases hx with
    | @str z hz =>
      refine ⟨?_, ?_⟩
      · show V.str z :: ys = V.str z :: (strsD ds).map V.str
        rw [← e1]
      · show PyData.str z :: ds = PyData.str z :: (strsD ds).map PyData.str
        rw [← e2]
    | _ => cases a1
theorem inV_str (x : Str) : ∀ ts : List Str, inV (.str x) (ts.map V.str) = decide (x ∈ ts)
  | [] => (decide_eq_false (by simp)).symm
  | t :: ts => by
    have ih := inV_str x ts
    unfold inV at ih ⊢
    rw [List.map_cons, List.any_cons, ih]
    show (t == x || decide (x ∈ ts)) = _
    rw [Bool.eq_iff_iff, Bool.or_eq_true, beq_iff_eq, decide_eq_true_iff, decide_eq_true_iff, List.mem_cons]
    exact or_congr eq_comm Iff.rfl
theorem flat_strs (ts : List Str) : (ts.map V.str).all flatV = true := by
  rw [List.all_map]
  exact List.all_eq_true.mpr fun _ _ => rfl
def spFree : Sp := fun vs H Q _ => ∃ (v : V) (d : PyData) (t : Addr) (ts : List Str), vs = [v, .ref t] ∧ Dv H v d ∧ isSeqD d = true ∧ H t = some (.lst (ts.map V.str)) ∧ ∀ H', Same H H' → Q (.bl (areFree (itemsD d) ts)) H'
section
variable {P : Program} {w : World} {K : PySem.W.Frag} {mg : Str → Option Value} {base : Heap}
abbrev s_are_free : Stmt := topS 30
theorem sc_are_free : FnScope ["names", "taken", "name"] ["names", "taken"] (defScope s_are_free) := ⟨rfl, rfl, rfl, by decide +kernel, rfl, by decide +kernel, by decide +kernel⟩
set_option maxHeartbeats 8000000 in
theorem ok_are_free (D : Df K mg "_are_free" s_are_free ["names", "taken"]) (T : Txt mg) (o_is_name : Own P w K mg base "is_name" 1 ["value"] (spD isNameD)) : Own P w K mg base "_are_free" 2 ["names", "taken"] spFree := by
  refine D.own sc_are_free (fun vs H Q E h => ?_) (fun f cdv A outer s H vs Q E hr h => ?_)
  · obtain ⟨_, _, _, _, rfl, _⟩ := h
    rfl
  · obtain ⟨v, d, t, ts, rfl, hv, hd, ht, k⟩ := h
    obtain ⟨a, xs, rfl, hS, hX, hL, _⟩ := hv.seq (K := K) hd
    have ln := hX.len
    generalize itemsD d = ds at hX hL k ln
    refine ⟨_, (pss_cons (ps_if (pt_not (pt_val (pe_callB (cr_all rfl) (by rfl) T.all (by decide +kernel) (pa_cons (pe_lc (own := [("name", 2)]) (g := gName 2) (tt := tYes) rfl sc_are_free.nd (pi_alt (pi_list (pv 0)) (pi_tup (pv 0))) (blkOk_by (own := [("name", 2)]) (N := ["names", "taken", "name"]) (sc := defScope s_are_free) (by decide +kernel)) (fun _ _ _ _ _ => (pg_name (i := 2) sc_are_free.nd rfl (Or.inl rfl))) (fun _ _ _ _ _ => pts_nil) (fun _ _ _ _ _ => (pe_own o_is_name (hr.mono (by decide)) (pa_cons (pv 2) pa_nil)))) pa_nil))))
    (pss_one (ps_ret pe_bl))
    pss_nil)
  (pss_one (ps_ret (pe_and (pe_cmpR op_eq (pe_lenSetS (by rfl) T.len (by rfl) T.set (pv 0)) (pe_callB call_len_seq (by rfl) T.len PySem.boot_len (pa_cons (pv 0) pa_nil)) (nomark _)) (pe_one (pe_not (pe_callB (cr_any rfl) (by rfl) T.any (by decide +kernel) (pa_cons (pe_lc (own := [("name", 2)]) (g := gName 2) (tt := tYes) (te := tOp (rIn K false) (tVar 2) (tVar 1)) rfl sc_are_free.nd (pi_alt (pi_list (pv 0)) (pi_tup (pv 0))) (blkOk_by (own := [("name", 2)]) (N := ["names", "taken", "name"]) (sc := defScope s_are_free) (by decide +kernel)) (fun _ _ _ _ _ => (pg_name (i := 2) sc_are_free.nd rfl (Or.inl rfl))) (fun _ _ _ _ _ => pts_nil) (fun _ _ _ _ _ => (pe_cmpR op_in_seq (pv 2) (pv 1) (by rfl)))) pa_nil)))))))), ?_⟩
    refine seq_pi hS rfl fun J hJ => fun L nL => lc_seq hJ (fun i H' => Same H H' ∧ H' L = some (.lst (((ds.take i).map isNameD).map V.bl))) ⟨same_upd nL, upd_same⟩ (fun i H' q => q.1) ?_ ?_
    · rintro i x H' hx ⟨s1, e1⟩
      obtain ⟨e, he, hxe⟩ := hX.get hx
      have hi : i < ds.length := (List.getElem?_eq_some_iff.mp he).1
      refine ⟨rfl, _, rfl, x, e, rfl, hxe.same s1, fun H2 s2 => ⟨_, s2 _ _ e1, ?_, (s1.trans s2).upd1 nL, ?_⟩⟩
      · rw [List.length_map, List.length_map, List.length_take]
        exact small1000_2 (by omega)
      · rw [upd_same, List.take_add_one, he, List.map_append, List.map_append]
        rfl
    · rintro H1 ⟨s1, e1⟩
      rw [ln, List.take_length] at e1
      refine ⟨L, ds.map isNameD, rfl, SqL.of e1, _, rfl, ?_⟩
      have ea : (ds.map isNameD).all id = ds.all isNameD := by rw [List.all_map]; rfl
      rw [ea]
      cases hall : ds.all isNameD with
      | false =>
        refine iteT ?_
        have := k H1 s1
        rw [show areFree ds ts = false by unfold areFree; rw [hall]; rfl] at this
        exact this
      | true =>
        refine iteF ?_
        obtain ⟨ex, ed⟩ := names_str hX hall
        have k2 : ∀ H', Same H H' → Q (.bl (decide (strsD ds).Nodup && !(strsD ds).any fun x => decide (x ∈ ts))) H' := fun H' s => by
          have := k H' s
          rw [show areFree ds ts = (decide (strsD ds).Nodup && !(strsD ds).any fun x => decide (x ∈ ts)) by unfold areFree; rw [hall]; rfl] at this
          exact this
        have lss : (strsD ds).length ≤ 2000 := by
          have := congrArg List.length ed
          rw [List.length_map] at this
          omega
        generalize strsD ds = ss at ex k2 lss
        subst ex
        have hS1 := s1.sqs hS
        refine ⟨_, rfl, a, ss, rfl, hS1, by omega, _, rfl, a, _, rfl, hS1, rfl, _, rfl, ?_⟩
        have en : decide (V.int (cntS ss ss.length : Nat) = V.int ((ss.map V.str).length : Nat)) = decide ss.Nodup := by
          rw [← cntS_nodup, List.length_map]
          exact decide_eq_decide.mpr ⟨fun q => by have := V.int.inj q; omega, fun q => by rw [q]⟩
        rw [en]
        cases hn : decide ss.Nodup with
        | false =>
          refine iteF ?_
          have := k2 H1 s1
          rw [hn] at this
          exact this
        | true =>
          refine iteT ?_
          refine seq_pi hS1 rfl fun J hJ => fun L2 nL2 => lc_seq hJ (fun i H' => Same H1 H' ∧ H' L2 = some (.lst (((ss.take i).map fun x => decide (x ∈ ts)).map V.bl))) ⟨same_upd nL2, upd_same⟩ (fun i H' q => q.1) ?_ ?_
          · rintro i x H' hx ⟨s2, e2⟩
            obtain ⟨y, hy, rfl⟩ : ∃ y, ss[i]? = some y ∧ x = V.str y := by
              rw [List.getElem?_map] at hx
              cases hz : ss[i]? with
              | none =>
                rw [hz] at hx
                cases hx
              | some y =>
                rw [hz] at hx
                cases hx
                exact ⟨y, rfl, rfl⟩
            have hi : i < ss.length := (List.getElem?_eq_some_iff.mp hy).1
            refine ⟨rfl, _, rfl, _, rfl, t, _, rfl, Or.inl (SqL.of (s2 _ _ (s1 _ _ ht))), rfl, flat_strs ts, _, e2, ?_, s2.upd1 nL2, ?_⟩
            · rw [List.length_map, List.length_map, List.length_take]
              exact small1000_2 (by omega)
            · rw [upd_same, List.take_add_one, hy, List.map_append, List.map_append]
              show _ = some (HO.lst (_ ++ [V.bl (decide (y ∈ ts))]))
              rw [← inV_str]
              rfl
          · rintro H2 ⟨s2, e2⟩
            rw [List.length_map, List.take_length] at e2
            refine ⟨L2, _, rfl, SqL.of e2, _, rfl, ?_⟩
            have ea : ((ss.map fun x => decide (x ∈ ts)).any id) = ss.any fun x => decide (x ∈ ts) := by rw [List.any_map]; rfl
            rw [ea]
            have := k2 H2 (s1.trans s2)
            rw [hn] at this
            exact this
end
end My

namespace My
open PySem PySem.Spec PyProof.Rows L2
local macro_rules | `(tactic| walk_at "side") => `(tactic| first | (dsimp only; omega) | exact ⟨by omega, by omega⟩ | exact Or.inl ⟨by omega, by omega⟩ | exact Or.inr ⟨by omega, by omega⟩ | decide)
local macro_rules | `(tactic| walk_at "sq") => `(tactic| first | assumption | exact SqL.of (by assumption) | exact SqT.of (by assumption) | (refine L2.Same.seq (by assumption) ?_; walk_at "sq") | (refine L2.Same.seqT (by assumption) ?_; walk_at "sq") | exact Or.inl (by walk_at "sq") | exact Or.inr (by walk_at "sq"))
local macro_rules | `(tactic| walk_at "1") => `(tactic| first
  | refine ⟨_, rfl, iteT ?_⟩
  | refine ⟨_, rfl, iteF ?_⟩
  | refine ⟨_, rfl, ?_⟩
  | refine ⟨_, _, rfl, rfl, (by walk_at "side"), ?_⟩
  | refine ⟨_, _, rfl, rfl, ?_⟩
  | refine ⟨_, _, _, _, true, rfl, .ty _, .base (.int _), kit_ty (a := "int") (by decide +kernel), ?_⟩
  | refine ⟨_, _, _, _, false, rfl, .ty _, .base (.int _), kit_ty (a := "int") (by decide +kernel), ?_⟩
  | refine ⟨_, _, rfl, (by walk_at "sq"), ?_⟩
  | refine ⟨_, _, _, _, rfl, rfl, (by walk_at "sq"), (by first | rfl | assumption), ?_⟩
  | refine Or.inl ⟨_, _, _, _, rfl, rfl, (by walk_at "sq"), (by first | rfl | assumption), ?_⟩
  | refine Or.inr (Or.inl ⟨_, _, _, _, rfl, rfl, (by walk_at "sq"), (by first | rfl | assumption), ?_⟩)
  | refine ⟨_, _, rfl, Or.inl ⟨(by walk_at "sq"), ?_⟩⟩
  | refine ⟨rfl, ?_⟩
  | refine iteT ?_
  | refine iteF ?_
  | refine ⟨_, _, _, _, _, rfl, (by assumption), (by assumption), (by assumption), (by assumption), ?_⟩
  | refine Or.inl ⟨_, rfl, ?_⟩
  | refine Or.inr ⟨_, rfl, ?_⟩
  | refine ⟨_, _, rfl, (by walk_at "side"), ?_⟩
  | refine ⟨_, _, rfl, ?_⟩)
local macro_rules | `(tactic| walk_at "fld") => `(tactic| skip)
local macro_rules | `(tactic| walk_at "s") => `(tactic| repeat walk_at "1")
local macro_rules | `(tactic| walk_at "size") => `(tactic| first | exact Nat.le_of_ble_eq_true rfl | (simp only [List.length_map, List.length_append, List.length_cons, List.length_nil]; omega))
local macro_rules | `(tactic| walk_at "new") => `(tactic| (first | refine ⟨(by walk_at "size"), fun p hp => ?_⟩ | refine fun p hp => ?_); (generalize hq : upd _ p _ = H1); (obtain ⟨s, e⟩ := new_facts hp hq); clear hq)
abbrev rLenS (K : PySem.W.Frag) : List V → Hp → VK → Prop := fun xs H Q => ∃ p ys, xs = [.ref p] ∧ (SqL K H p ys ∨ SqT K H p ys) ∧ Q (.int ys.length) H
/-! ## labels, calls, ends, links -/
/-- the label of a call, if it is a text -/
def labS : PyData → Option Str
  | .tuple (.str x :: _) => some x
  | _ => none
/-- a thing that has a text as label, or none -/
def labOk : PyData → Bool
  | .tuple (.str _ :: _) => true
  | .tuple [] => true
  | .tuple _ => false
  | _ => true
def lblS (d : PyData) : List Str := (itemsD d).filterMap labS
def isCallD : PyData → Bool
  | .tuple [a, b] => isNameD a && isNameD b
  | _ => false
/-- an end as a text -/
def isEndS (x : Str) (names labels : List Str) : Bool := decide (x ∈ names) || (decide ((Txt.partition x ".").2.1 = ".") && (decide ((Txt.partition x ".").1 ∈ labels) && nameS (Txt.partition x ".").2.2))
def endsD (begins ends labels : List Str) : PyData → Bool
  | .tuple (.str f :: .str t :: _) => isEndS f begins labels && isEndS t ends labels
  | _ => false
def isRightD (begins ends labels : List Str) (d : PyData) : Bool := isLinkD d && endsD begins ends labels d
/-- the module's name x is the def st, made under the name y -/
structure DfA (K : PySem.W.Frag) (mg : Str → Option Value) (x y : Str) (st : Stmt) (ps : List Str) : Prop where
  ex : ∃ f fd, Fun K y y st f fd ∧ mg x = some (.ref f) ∧ Binds K fd ps []
theorem DfA.own {P : Program} {w : World} {K : PySem.W.Frag} {mg : Str → Option Value} {base : Heap} {x y : Str} {st : Stmt} {ps N : List Str} {k : Nat} {sp : Sp} (D : DfA K mg x y st ps) (S : FnScope N ps (defScope st)) (len : ∀ vs H Q E, sp vs H Q E → vs.length = ps.length)
    (hbody : ∀ (f : Addr) (cdv : Value) (A : Around) (outer : List Env) (s : Shared) (H : Hp) (vs : List V) (Q : VK) (E : XK), Room k (A.deeper (envOfC y (defScope st) s.heap.objs.size f cdv)) → sp vs H Q E →
      ∃ t, PSs (cxOf CX0 P w K mg base N y (defScope st) f cdv A outer s H E).nox (defBody st) t ∧ t { nx := fun _ H' => Q .non H', rt := Q } (start N vs) H) : Own P w K mg base x (k + 1) ps sp := by
  obtain ⟨f, fd, F, m, b⟩ := D.ex
  exact ⟨f, fd, F.ok S len (hbody f), m, F.kp, b⟩
def spLabels : Sp := fun vs H Q _ => ∃ (v : V) (d : PyData), vs = [v] ∧ Dv H v d ∧ (itemsD d).all labOk = true ∧ ∀ p H', Same H H' → H p = none → H' p = some (.lst ((lblS d).map V.str)) → Q (.ref p) H'
def spEnd : Sp := fun vs H Q _ => ∃ (x : Str) (a b : Addr) (ns ls : List Str), vs = [.str x, .ref a, .ref b] ∧ okS x = true ∧ H a = some (.lst (ns.map V.str)) ∧ H b = some (.lst (ls.map V.str)) ∧ ∀ H', Same H H' → Q (.bl (isEndS x ns ls)) H'
def spRight : Sp := fun vs H Q _ => ∃ (v : V) (d : PyData) (a b c : Addr) (bs es ls : List Str), vs = [v, .ref a, .ref b, .ref c] ∧ Dv H v d ∧ H a = some (.lst (bs.map V.str)) ∧ H b = some (.lst (es.map V.str)) ∧ H c = some (.lst (ls.map V.str)) ∧ ∀ H', Same H H' → Q (.bl (isRightD bs es ls d)) H'
theorem okS_mk {x y : Str} (h : okS x = true) (c : ∀ n ∈ y.cps.toList, n ∈ x.cps.toList) (l : y.length ≤ x.length) : okS y = true := by
  obtain ⟨h1, h2⟩ := Bool.and_eq_true_iff.mp h
  refine Bool.and_eq_true_iff.mpr ⟨?_, decide_eq_true (Nat.le_trans l (of_decide_eq_true h2))⟩
  rw [← Array.all_toList, List.all_eq_true] at h1 ⊢
  exact fun n hn => h1 n (c n hn)
open TL in
theorem par_tail (S : List Nat) : ∀ (r acc a b : List Nat), par S acc r = some (a, b) → ∃ t, r = t ++ b
  | [], acc, a, b, h => by cases h
  | c :: r, acc, a, b, h => by
    cases hp : pre S (c :: r) with
    | true =>
      rw [par_hit hp] at h
      cases h
      exact ⟨(c :: r).take S.length, (List.take_append_drop ..).symm⟩
    | false =>
      rw [par_miss hp] at h
      obtain ⟨t, e⟩ := par_tail S r _ a b h
      exact ⟨c :: t, by rw [e]; rfl⟩
open TL in
set_option maxRecDepth 100000 in
theorem okS_part {x : Str} (h : okS x = true) : okS (Txt.partition x ".").2.2 = true := by
  rw [partition_par x "." (by decide)]
  cases e : par (tl ".") [] (tl x) with
  | none =>
    show okS Str.empty = true
    decide +kernel
  | some ab =>
    obtain ⟨a, b⟩ := ab
    obtain ⟨t, et⟩ := par_tail _ _ _ _ _ e
    have et' : x.cps.toList = t ++ b := et
    refine okS_mk h (fun n hn => ?_) ?_
    · rw [et']
      exact List.mem_append_right _ (by simpa using hn)
    · rw [len_tl x]
      show (b.toArray).size ≤ (tl x).length
      rw [List.size_toArray, et, List.length_append]
      omega
section
variable {P : Program} {w : World} {K : PySem.W.Frag} {mg : Str → Option Value} {base : Heap}
abbrev s_labels : Stmt := topS 31
theorem sc_labels : FnScope ["calls", "call"] ["calls"] (defScope s_labels) := ⟨rfl, rfl, rfl, by decide +kernel, rfl, by decide +kernel, by decide +kernel⟩
set_option maxHeartbeats 8000000 in
theorem ok_labels (D : Df K mg "_labels" s_labels ["calls"]) (T : Txt mg) (o_is_sequence : Own P w K mg base "is_sequence" 1 ["value"] (spD isSeqD)) : Own P w K mg base "_labels" 2 ["calls"] spLabels := by
  refine D.own sc_labels (fun vs H Q E h => ?_) (fun f cdv A outer s H vs Q E hr h => ?_)
  · obtain ⟨_, _, rfl, _⟩ := h
    rfl
  · obtain ⟨v, d, rfl, hv, hok, k⟩ := h
    refine ⟨_, (pss_cons (ps_if (pt_not (pt_val (pe_own o_is_sequence (hr.mono (by decide)) (pa_cons (pv 0) pa_nil))))
    (pss_one (ps_ret (pe_lst pa_nil)))
    pss_nil)
  (pss_one (ps_ret (pe_lc (own := [("call", 1)]) (g := gName 1) (te := tOp (rIxT K) (tVar 1) (tC (.int 0))) (tt := (tAnd (tTest (tCB (rIsi K) (tCons (tVar 1) (tCons (tC (.ty "tuple")) tNil)))) (tTest (tOp _ (tCB (rLenS K) (tCons (tVar 1) tNil)) (tC (.int 0)))))) rfl sc_labels.nd (pi_alt (pi_list (pv 0)) (pi_tup (pv 0))) (blkOk_by (own := [("call", 1)]) (N := ["calls", "call"]) (sc := defScope s_labels) (by decide +kernel)) (fun _ _ _ _ _ => (pg_name (i := 1) sc_labels.nd rfl (Or.inl rfl))) (fun _ _ _ _ _ => (pts_one (PW.pt (pw_and (pt_val (pe_callB call_isi (by rfl) T.isinstance (by decide +kernel) (pa_cons (pv 1) (pa_cons (pe_bltn (v := .ty "tuple") (u := .type "tuple") (by rfl) T.tuple (by decide +kernel) rfl) pa_nil)))) (pw_and1 (pt_cmpR op_gt (pe_callB call_len_seq (by rfl) T.len PySem.boot_len (pa_cons (pv 1) pa_nil)) pe_int (nomark _))))))) (fun _ _ _ _ _ => (pe_ix ix_tup (pv 1) pe_int (fun _ _ => rfl))))))), ?_⟩
    refine ⟨_, rfl, v, d, rfl, hv, fun H0 s0 => ⟨_, rfl, ?_⟩⟩
    cases hd : isSeqD d with
    | false =>
      refine iteT ?_
      refine new_lst (Nat.zero_le _) fun p H' s' n' e' => k p H' (s0.trans s') (s0.free n') ?_
      rw [e', show lblS d = [] by
        unfold lblS
        cases d <;> first | rfl | cases hd]
      rfl
    | true =>
      refine iteF ?_
      obtain ⟨a, xs, rfl, hS, hX, hL, _⟩ := (hv.same s0).seq (K := K) hd
      have ln := hX.len
      have k' : ∀ p H', Same H H' → H p = none → H' p = some (.lst (((itemsD d).filterMap labS).map V.str)) → Q (.ref p) H' := k
      generalize itemsD d = ds at hX hL k' ln hok
      refine seq_pi hS rfl fun J hJ => fun L nL => lc_seq hJ (LcP H0 L fun i => (ds[i]?).bind fun d => (labS d).map V.str) (LcP.zero nL) (fun i H' q => q.same) ?_ ?_
      · rintro i x H' hx q
        obtain ⟨e, he, hxe⟩ := hX.get hx
        have hi : i < ds.length := (List.getElem?_eq_some_iff.mp he).1
        have he1 : labOk e = true := List.all_eq_true.mp hok e (List.mem_of_getElem? he)
        have hxe := hxe.same q.same
        refine ⟨rfl, _, rfl, _, _, _, _, _, rfl, .ty _, hxe.ty, kit_ty (kb_tuple e), _, rfl, ?_⟩
        have fno : ∀ {o : Option V}, (labS e).map V.str = o → ((ds[i]?).bind fun d => (labS d).map V.str) = o := fun h => by rw [he]; exact h
        cases hxe with
        | @tup a2 ys es e2 h2 sm2 =>
          refine iteT ?_
          refine ⟨_, rfl, a2, ys, rfl, Or.inr (SqT.of e2), _, _, rfl, rfl, _, rfl, ?_⟩
          cases h2 with
          | nil =>
            exact q.no (Same.refl _) (fno rfl)
          | @cons y d0 ys ds0 hy ht =>
            show if decide ((0 : Int) < ((y :: ys).length : Int)) = true then _ else _
            rw [decide_eq_true (show (0 : Int) < ((y :: ys).length : Int) by rw [List.length_cons]; omega)]
            refine iteT ?_
            refine ⟨_, rfl, a2, y :: ys, _, y, rfl, rfl, SqT.of e2, (show atI (y :: ys) ((0 : Nat) : Int) = some y from atI_nat rfl), ?_⟩
            cases hy with
            | @str z hz => exact q.yes (Same.refl _) nL (small1000_2 (by omega)) (fno rfl)
            | _ => cases he1
        | _ =>
          refine iteF ?_
          exact q.no (Same.refl _) (fno rfl)
      · intro H1 q
        have e := q.lst
        rw [ln, fm_opt] at e
        refine k' L H1 (s0.trans q.same) (s0.free nL) ?_
        rw [e, List.map_filterMap]
abbrev s_is_call : Stmt := topS 32
theorem sc_is_call : FnScope ["call"] ["call"] (defScope s_is_call) := ⟨rfl, rfl, rfl, by decide +kernel, rfl, by decide +kernel, by decide +kernel⟩
theorem isTupN2 {d : PyData} (h : isTupND 2 d = true) : ∃ a b, d = .tuple [a, b] := by
  cases d with
  | tuple ds =>
    have l : (ds.length : Int) = 2 := of_decide_eq_true h
    match ds, l with
    | [a, b], _ => exact ⟨a, b, rfl⟩
    | [], l => simp at l
    | [_], l => simp at l
    | _ :: _ :: _ :: r, l => simp only [List.length_cons] at l; omega
  | _ => cases h
theorem isCall_no {d : PyData} (h : isTupND 2 d = false) : isCallD d = false := by
  cases d with
  | tuple ds =>
    match ds with
    | [a, b] => exact absurd h (by simp [isTupND])
    | [] => rfl
    | [_] => rfl
    | _ :: _ :: _ :: _ => rfl
  | _ => rfl
set_option maxHeartbeats 4000000 in
theorem ok_is_call (D : Df K mg "_is_call" s_is_call ["call"]) (o_is_tuple_of : Own P w K mg base "is_tuple_of" 1 ["value", "many"] spTupOf) (o_is_name : Own P w K mg base "is_name" 1 ["value"] (spD isNameD)) : Own P w K mg base "_is_call" 2 ["call"] (spD isCallD) := by
  refine D.own sc_is_call (fun vs H Q E h => ?_) (fun f cdv A outer s H vs Q E hr h => ?_)
  · obtain ⟨_, _, rfl, _⟩ := h
    rfl
  · obtain ⟨v, d, rfl, hv, k⟩ := h
    refine ⟨_, (pss_one (ps_ret (pe_and (pe_own o_is_tuple_of (hr.mono (by decide)) (pa_cons (pv 0) (pa_cons pe_int pa_nil))) (pe_and (pe_own o_is_name (hr.mono (by decide)) (pa_cons (pe_ix ix_tup (pv 0) pe_int (fun _ _ => rfl)) pa_nil)) (pe_one (pe_own o_is_name (hr.mono (by decide)) (pa_cons (pe_ix ix_tup (pv 0) pe_int (fun _ _ => rfl)) pa_nil))))))), ?_⟩
    refine ⟨_, rfl, v, d, 2, rfl, hv, fun H1 s1 => ⟨_, rfl, ?_⟩⟩
    cases ht : isTupND 2 d with
    | false =>
      refine iteF ?_
      have := k _ s1
      rw [isCall_no ht] at this
      exact this
    | true =>
      refine iteT ?_
      obtain ⟨a, b, rfl⟩ := isTupN2 ht
      have hv1 := hv.same s1
      cases hv1 with
      | @tup p xs _ ep hx sm =>
        obtain ⟨x1, ys, rfl, d1, hx⟩ := hx.inv
        obtain ⟨x2, ys, rfl, d2, hx⟩ := hx.inv
        obtain rfl := hx.inv0
        have el : isCallD (.tuple [a, b]) = (isNameD a && isNameD b) := rfl
        refine ⟨_, rfl, p, _, _, _, rfl, rfl, SqT.of ep, rfl, x1, a, rfl, d1, fun H2 s2 => ⟨_, rfl, ?_⟩⟩
        cases h1 : isNameD a with
        | false =>
          refine iteF ?_
          have := k _ (s1.trans s2)
          rw [el, h1] at this
          exact this
        | true =>
          refine iteT ?_
          refine ⟨_, rfl, p, _, _, _, rfl, rfl, SqT.of (s2 _ _ ep), rfl, x2, b, rfl, d2.same s2, fun H3 s3 => ?_⟩
          have := k _ (s1.trans (s2.trans s3))
          rw [el, h1] at this
          exact this
abbrev s_is_end : Stmt := topS 34
theorem sc_is_end : FnScope ["end", "names", "labels", "label", "point", "name"] ["end", "names", "labels"] (defScope s_is_end) := ⟨rfl, rfl, rfl, by decide +kernel, rfl, by decide +kernel, by decide +kernel⟩
set_option maxHeartbeats 4000000 in
theorem ok_is_end (D : DfA K mg "is_end_houses" "_is_end" s_is_end ["end", "names", "labels"]) (o_is_name : Own P w K mg base "is_name" 1 ["value"] (spD isNameD)) : Own P w K mg base "is_end_houses" 2 ["end", "names", "labels"] spEnd := by
  refine D.own sc_is_end (fun vs H Q E h => ?_) (fun f cdv A outer s H vs Q E hr h => ?_)
  · obtain ⟨_, _, _, _, _, rfl, _⟩ := h
    rfl
  · obtain ⟨x, a, b, ns, ls, rfl, hx, ha, hb, k⟩ := h
    refine ⟨_, (pss_cons (ps_if (pt_cmpR op_in_seq (pv 0) (pv 1) (by rfl))
    (pss_one (ps_ret pe_bl))
    pss_nil)
  (pss_cons (ps_asg (pe_m1 PySem.F.slot_str_partition PySem.F.type_str_partition mt_partition (pv 0) pe_str) (pg_tup (by rfl) (pgs_cons (pg_name (i := 3) sc_is_end.nd rfl (Or.inl rfl)) (pgs_cons (pg_name (i := 4) sc_is_end.nd rfl (Or.inl rfl)) (pgs_cons (pg_name (i := 5) sc_is_end.nd rfl (Or.inl rfl)) pgs_nil)))))
  (pss_one (ps_ret (pe_and (pe_cmpR op_eq (pv 4) pe_str (nomark _)) (pe_and (pe_cmpR op_in_seq (pv 3) (pv 2) (by rfl)) (pe_one (pe_own o_is_name (hr.mono (by decide)) (pa_cons (pv 5) pa_nil))))))))), ?_⟩
    refine ⟨_, rfl, _, rfl, a, _, rfl, Or.inl (SqL.of ha), rfl, flat_strs ns, _, rfl, ?_⟩
    rw [inV_str]
    have el : isEndS x ns ls = (decide (x ∈ ns) || (decide ((Txt.partition x ".").2.1 = ".") && (decide ((Txt.partition x ".").1 ∈ ls) && nameS (Txt.partition x ".").2.2))) := rfl
    cases h1 : decide (x ∈ ns) with
    | true =>
      refine iteT ?_
      have := k H (Same.refl _)
      rw [el, h1] at this
      exact this
    | false =>
      refine iteF ?_
      have hl : x.length ≤ 1000 := of_decide_eq_true (Bool.and_eq_true_iff.mp hx).2
      have k2 : ∀ H', Same H H' → Q (.bl (decide ((Txt.partition x ".").2.1 = ".") && (decide ((Txt.partition x ".").1 ∈ ls) && nameS (Txt.partition x ".").2.2))) H' := fun H' s' => by
        have := k H' s'
        rw [el, h1] at this
        exact this
      have ok3 := okS_part hx
      refine ⟨_, rfl, ⟨_, rfl⟩, x, ".", rfl, rfl, by rfl, Nat.le_of_lt (small1000 hl), fun p np => ?_⟩
      generalize hq : upd H p _ = H1
      obtain ⟨s1, e1⟩ := new_facts np hq
      generalize Txt.partition x "." = tr at e1 k2 ok3
      obtain ⟨t1, t2, t3⟩ := tr
      refine ⟨p, _, rfl, SqT.of e1, rfl, _, _, rfl, _, _, rfl, _, _, rfl, rfl, ?_⟩
      refine ⟨_, rfl, rfl, _, rfl, ?_⟩
      have ed : decide (V.str t2 = V.str ".") = decide (t2 = ".") := decide_eq_decide.mpr ⟨V.str.inj, fun q => by rw [q]⟩
      rw [ed]
      cases h2 : decide (t2 = ".") with
      | false =>
        refine iteF ?_
        have := k2 H1 s1
        rw [h2] at this
        exact this
      | true =>
        refine iteT ?_
        refine ⟨_, rfl, _, rfl, b, _, rfl, Or.inl (SqL.of (s1 _ _ hb)), rfl, flat_strs ls, _, rfl, ?_⟩
        rw [inV_str]
        cases h3 : decide (t1 ∈ ls) with
        | false =>
          refine iteF ?_
          have := k2 H1 s1
          rw [h2, h3] at this
          exact this
        | true =>
          refine iteT ?_
          refine ⟨_, rfl, .str t3, .str t3, rfl, .str ok3, fun H2 s2 => ?_⟩
          have := k2 H2 (s1.trans s2)
          rw [h2, h3] at this
          exact this
abbrev s_is_right_link : Stmt := topS 33
theorem sc_is_right_link : FnScope ["link", "begins", "ends", "labels"] ["link", "begins", "ends", "labels"] (defScope s_is_right_link) := ⟨rfl, rfl, rfl, by decide +kernel, rfl, by decide +kernel, by decide +kernel⟩
theorem right_no {d : PyData} {bs es ls : List Str} (h : isLinkD d = false) : isRightD bs es ls d = false := by
  unfold isRightD
  rw [h, Bool.false_and]
theorem link_yes {d : PyData} (h : isLinkD d = true) : ∃ f t m l, d = .tuple [.str f, .str t, m, l] ∧ (isNumD m && isNumD l) = true := by
  unfold isLinkD at h
  split at h
  · rename_i f t m l
    obtain ⟨h1, h2⟩ := Bool.and_eq_true_iff.mp h
    obtain ⟨h2, h3⟩ := Bool.and_eq_true_iff.mp h2
    cases f <;> try cases h1
    cases t <;> try cases h2
    exact ⟨_, _, m, l, rfl, h3⟩
  · cases h
set_option maxHeartbeats 4000000 in
theorem ok_is_right (D : Df K mg "_is_right_link" s_is_right_link ["link", "begins", "ends", "labels"]) (o_is_link : Own P w K mg base "is_link" 3 ["value"] (spD isLinkD)) (o_is_end_houses : Own P w K mg base "is_end_houses" 2 ["end", "names", "labels"] spEnd) : Own P w K mg base "_is_right_link" 4 ["link", "begins", "ends", "labels"] spRight := by
  refine D.own sc_is_right_link (fun vs H Q E h => ?_) (fun f cdv A outer s H vs Q E hr h => ?_)
  · obtain ⟨_, _, _, _, _, _, _, _, rfl, _⟩ := h
    rfl
  · obtain ⟨v, d, a, b, c, bs, es, ls, rfl, hv, ha, hb, hc, k⟩ := h
    refine ⟨_, (pss_one (ps_ret (pe_and (pe_own o_is_link (hr.mono (by decide)) (pa_cons (pv 0) pa_nil)) (pe_and (pe_own o_is_end_houses (hr.mono (by decide)) (pa_cons (pe_ix ix_tup (pv 0) pe_int (fun _ _ => rfl)) (pa_cons (pv 1) (pa_cons (pv 3) pa_nil)))) (pe_one (pe_own o_is_end_houses (hr.mono (by decide)) (pa_cons (pe_ix ix_tup (pv 0) pe_int (fun _ _ => rfl)) (pa_cons (pv 2) (pa_cons (pv 3) pa_nil))))))))), ?_⟩
    refine ⟨_, rfl, v, d, rfl, hv, fun H1 s1 => ⟨_, rfl, ?_⟩⟩
    cases ht : isLinkD d with
    | false =>
      refine iteF ?_
      have := k _ s1
      rw [right_no ht] at this
      exact this
    | true =>
      refine iteT ?_
      obtain ⟨f, t, m, l, rfl, hn⟩ := link_yes ht
      have el : isRightD bs es ls (.tuple [.str f, .str t, m, l]) = (isEndS f bs ls && isEndS t es ls) := by
        show ((isNumD m && isNumD l) && (isEndS f bs ls && isEndS t es ls)) = _
        rw [hn, Bool.true_and]
      have hv1 := hv.same s1
      cases hv1 with
      | @tup p xs _ ep hx sm =>
        obtain ⟨x1, ys, rfl, d1, hx⟩ := hx.inv
        obtain ⟨x2, ys, rfl, d2, hx⟩ := hx.inv
        obtain ⟨x3, ys, rfl, d3, hx⟩ := hx.inv
        obtain ⟨x4, ys, rfl, d4, hx⟩ := hx.inv
        obtain rfl := hx.inv0
        cases d1 with
        | str o1 =>
        cases d2 with
        | str o2 =>
        refine ⟨_, rfl, p, _, _, _, rfl, rfl, SqT.of ep, rfl, _, rfl, _, rfl, f, a, c, bs, ls, rfl, o1, s1 _ _ ha, s1 _ _ hc, fun H2 s2 => ⟨_, rfl, ?_⟩⟩
        have s12 := s1.trans s2
        cases h1 : isEndS f bs ls with
        | false =>
          refine iteF ?_
          have := k _ s12
          rw [el, h1] at this
          exact this
        | true =>
          refine iteT ?_
          refine ⟨_, rfl, p, _, _, _, rfl, rfl, SqT.of (s2 _ _ ep), rfl, _, rfl, _, rfl, t, b, c, es, ls, rfl, o2, s12 _ _ hb, s12 _ _ hc, fun H3 s3 => ?_⟩
          have := k _ (s12.trans s3)
          rw [el, h1] at this
          exact this
end
end My

namespace My
open PySem PySem.Spec PyProof.Rows L2
local macro_rules | `(tactic| walk_at "wp_side") => `(tactic| first | (dsimp only; omega) | exact ⟨by omega, by omega⟩ | exact Or.inl ⟨by omega, by omega⟩ | exact Or.inr ⟨by omega, by omega⟩ | decide)
local macro_rules | `(tactic| walk_at "wp1") => `(tactic| first
  | refine ⟨_, rfl, ?_⟩
  | refine ⟨_, _, rfl, rfl, (by walk_at "wp_side"), ?_⟩
  | refine ⟨_, _, rfl, rfl, ?_⟩
  | refine ⟨_, _, _, _, rfl, rfl, SqL.of (by first | assumption | exact upd_same), rfl, ?_⟩
  | refine ⟨_, _, _, _, rfl, rfl, (by first | assumption | exact upd_same), rfl, ?_⟩
  | refine ⟨_, _, rfl, Or.inl (by assumption), ?_⟩
  | refine Or.inl ⟨_, rfl, ?_⟩)
local macro_rules | `(tactic| walk_at "wps") => `(tactic| repeat walk_at "wp1")
local macro_rules | `(tactic| walk_at "side") => `(tactic| first | (dsimp only; omega) | exact ⟨by omega, by omega⟩ | exact Or.inl ⟨by omega, by omega⟩ | exact Or.inr ⟨by omega, by omega⟩ | decide)
local macro_rules | `(tactic| walk_at "sq") => `(tactic| first | assumption | exact SqL.of (by assumption) | exact SqT.of (by assumption) | (refine L2.Same.seq (by assumption) ?_; walk_at "sq") | (refine L2.Same.seqT (by assumption) ?_; walk_at "sq") | exact Or.inl (by walk_at "sq") | exact Or.inr (by walk_at "sq"))
local macro_rules | `(tactic| walk_at "1") => `(tactic| first
  | refine ⟨_, rfl, iteT ?_⟩
  | refine ⟨_, rfl, iteF ?_⟩
  | refine ⟨_, rfl, ?_⟩
  | refine ⟨_, _, rfl, rfl, (by walk_at "side"), ?_⟩
  | refine ⟨_, _, rfl, rfl, ?_⟩
  | refine ⟨_, _, _, _, true, rfl, .ty _, .base (.int _), kit_ty (a := "int") (by decide +kernel), ?_⟩
  | refine ⟨_, _, _, _, false, rfl, .ty _, .base (.int _), kit_ty (a := "int") (by decide +kernel), ?_⟩
  | refine ⟨_, _, rfl, (by walk_at "sq"), ?_⟩
  | refine ⟨_, _, _, _, rfl, rfl, (by walk_at "sq"), (by first | rfl | assumption), ?_⟩
  | refine Or.inl ⟨_, _, _, _, rfl, rfl, (by walk_at "sq"), (by first | rfl | assumption), ?_⟩
  | refine Or.inr (Or.inl ⟨_, _, _, _, rfl, rfl, (by walk_at "sq"), (by first | rfl | assumption), ?_⟩)
  | refine ⟨_, _, rfl, Or.inl ⟨(by walk_at "sq"), ?_⟩⟩
  | refine ⟨rfl, ?_⟩
  | refine iteT ?_
  | refine iteF ?_
  | refine ⟨_, _, _, _, _, rfl, (by assumption), (by assumption), (by assumption), (by assumption), ?_⟩
  | refine Or.inl ⟨_, rfl, ?_⟩
  | refine ⟨_, _, rfl, (by walk_at "side"), ?_⟩
  | refine ⟨_, _, rfl, ?_⟩)
local macro_rules | `(tactic| walk_at "fld") => `(tactic| skip)
local macro_rules | `(tactic| walk_at "s") => `(tactic| repeat walk_at "1")
local macro_rules | `(tactic| walk_at "size") => `(tactic| first | exact Nat.le_of_ble_eq_true rfl | (simp only [List.length_map, List.length_append, List.length_cons, List.length_nil]; omega))
local macro_rules | `(tactic| walk_at "new") => `(tactic| (first | refine ⟨(by walk_at "size"), fun p hp => ?_⟩ | refine fun p hp => ?_); (generalize hq : upd _ p _ = H1); (obtain ⟨s, e⟩ := new_facts hp hq); clear hq)

theorem upd_facts {H H1 : Hp} {p : Addr} {o : HO} (hq : upd H p o = H1) : H1 p = some o ∧ ∀ b, b ≠ p → H1 b = H b := by
  subst hq
  exact ⟨upd_same, fun b h => upd_ne h⟩

/-- a box of draws -/
def BoxAt (H : Hp) (b : Addr) : Prop := ∃ x y z : Int, 0 ≤ x ∧ H b = some (.lst [.int x, .int y, .int z])
/-- all but the box stands -/
def Bx (b : Addr) (H H' : Hp) : Prop := ∀ c o, c ≠ b → H c = some o → H' c = some o
theorem Bx.of {b : Addr} {H H' : Hp} (s : Same H H') : Bx b H H' := fun c o _ e => s c o e
theorem Bx.trans {b : Addr} {H H1 H2 : Hp} (s : Bx b H H1) (t : Bx b H1 H2) : Bx b H H2 := fun c o n e => t c o n (s c o n e)
theorem Bx.upd {b : Addr} {H : Hp} {o : HO} : Bx b H (upd H b o) := fun c x n e => by
  rw [upd_ne n]
  exact e
theorem Bx.same {b : Addr} {H0 H H' : Hp} (s : Bx b H H') (h : Same H0 H) (n : H0 b = none) : Same H0 H' := fun c o e => s c o (ne_of_none e n) (h c o e)
theorem BoxAt.same {b : Addr} {H H' : Hp} (h : BoxAt H b) (s : Same H H') : BoxAt H' b := by
  obtain ⟨x, y, z, h0, h1⟩ := h
  exact ⟨x, y, z, h0, s _ _ h1⟩
theorem BoxAt.ne {b p : Addr} {H : Hp} (h : BoxAt H b) (n : H p = none) : p ≠ b := by
  obtain ⟨x, y, z, h0, h1⟩ := h
  exact (ne_of_none h1 n).symm
def spTake : Sp := fun vs H Q _ => ∃ (b : Addr) (m : Nat), vs = [.ref b, .int m] ∧ 0 < m ∧ m < 1073741824 ∧ BoxAt H b ∧ ∀ (H' : Hp) (n : Nat), n < m → Bx b H H' → BoxAt H' b → Q (.int n) H'
def spBox (K : PySem.W.Frag) : Sp := fun vs H Q _ => ∃ (a : Addr) (ns : List Int) (k : Nat) (own : Int), vs = [.ref a, .int k, .int own] ∧ SqL K H a (ns.map V.int) ∧ ns.length ≤ 63 ∧
  ∀ (H' : Hp) (p : Addr), Same H H' → H p = none → BoxAt H' p → Q (.ref p) H'
section
variable {P : Program} {w : World} {K : PySem.W.Frag} {mg : Str → Option Value} {base : Heap} {C : Addr}
abbrev s_law_take : Stmt := topS 38
theorem sc_law_take : FnScope ["box", "many", "digit", "raw", "wide"] ["box", "many"] (defScope s_law_take) := ⟨rfl, rfl, rfl, by decide +kernel, rfl, by decide +kernel, by decide +kernel⟩
theorem ok_take (D : Df K mg "_law_take" s_law_take ["box", "many"]) (T : Txt mg) : Own P w K mg base "_law_take" 1 ["box", "many"] spTake := by
  refine D.own sc_law_take (fun vs H Q E h => ?_) (fun fa cdv A outer s H vs Q E hr h => ?_)
  · obtain ⟨_, _, rfl, _⟩ := h
    rfl
  · obtain ⟨b, m, rfl, m0, m1, ⟨x, y, z, x0, hb⟩, k⟩ := h
    have h8 : (0:Int) < 8191 ∧ (8191:Int) < 1073741824 := by decide
    have fin : ∀ (i x' y' z' : Int), 0 ≤ i → i < m → 0 ≤ x' → Q (.int i) (upd H b (.lst [.int x', .int y', .int z'])) := fun i x' y' z' i0 i1 hx => by
      have := k (upd H b (.lst [.int x', .int y', .int z'])) i.toNat (by omega) Bx.upd ⟨x', y', z', hx, upd_same⟩
      rw [show ((i.toNat : Nat) : Int) = i by omega] at this
      exact this
    refine ⟨_, (pss_cons (ps_if (pt_cmpR op_gt (pe_ix ix_list (pv 0) pe_int (fun _ _ => rfl)) pe_int (nomark _))
    (pss_cons (ps_set (i := 2) sc_law_take.nd rfl (Or.inl rfl) (pe_op op_mod (pe_callTy call_int1 (by rfl) T.int (by decide +kernel) (pa_cons (pe_ix ix_list (pv 0) pe_int (fun _ _ => rfl)) pa_nil)) (pv 1)))
      (pss_cons (ps_asg (pe_op op_fdiv (pe_ix ix_list (pv 0) pe_int (fun _ _ => rfl)) (pv 1)) (pg_sub (pv 0) pe_int set_list))
      (pss_one (ps_ret (pv 2)))))
    pss_nil)
  (pss_cons (ps_asg (pe_op op_add (pe_ix ix_list (pv 0) pe_int (fun _ _ => rfl)) pe_int) (pg_sub (pv 0) pe_int set_list))
  (pss_cons (ps_set (i := 3) sc_law_take.nd rfl (Or.inl rfl) (pe_op op_mod (pe_callTy call_int1 (by rfl) T.int (by decide +kernel) (pa_cons (pe_op op_mul (pe_op op_add (pe_ix ix_list (pv 0) pe_int (fun _ _ => rfl)) (pe_op op_mul pe_int (pe_ix ix_list (pv 0) pe_int (fun _ _ => rfl)))) pe_int) pa_nil)) pe_int))
  (pss_cons (ps_asg (pe_op op_add (pe_op op_mod (pe_callTy call_int1 (by rfl) T.int (by decide +kernel) (pa_cons (pe_op op_add (pe_op op_mul (pv 3) pe_int) pe_int) pa_nil)) pe_int) pe_int) (pg_sub (pv 0) pe_int set_list))
  (pss_cons (ps_if (pt_cmpR op_lt (pv 1) (pe_op op_pow pe_int pe_int) (nomark _))
    (pss_one (ps_ret (pe_op op_mod (pe_callTy call_int1 (by rfl) T.int (by decide +kernel) (pa_cons (pe_op op_fdiv (pe_op op_add (pe_op op_mul (pv 3) pe_int) (pe_ix ix_list (pv 0) pe_int (fun _ _ => rfl))) pe_int) pa_nil)) (pv 1))))
    pss_nil)
  (pss_cons (ps_set (i := 4) sc_law_take.nd rfl (Or.inl rfl) (pe_op op_mul (pe_op op_add (pe_op op_mul (pv 3) pe_int) (pe_ix ix_list (pv 0) pe_int (fun _ _ => rfl))) (pe_op op_pow pe_int pe_int)))
  (pss_one (ps_ret (pe_op op_mod (pe_callTy call_int1 (by rfl) T.int (by decide +kernel) (pa_cons (pe_op op_add (pe_op op_add (pv 4) (pe_op op_mul (pe_op op_pow (pe_ix ix_list (pv 0) pe_int (fun _ _ => rfl)) pe_int) pe_int)) (pv 3)) pa_nil)) (pv 1)))))))))), ?_⟩
    walk_at "wps"
    refine ite2 (fun c => ?_) (fun c => ?_)
    · have c' : 0 < x := by simpa using c
      walk_at "wps"
      exact fin _ _ _ _ (Int.emod_nonneg _ (by omega)) (Int.emod_lt_of_pos _ (by omega)) (Int.ediv_nonneg x0 (by omega))
    · iterate 26 (walk_at "wp1")
      have big : (m : Int) < (2 : Int) ^ (40 : Int).toNat := Int.lt_trans (by omega) (by decide : (1073741824 : Int) < (2 : Int) ^ (40 : Int).toNat)
      rw [decide_eq_true big]
      refine iteT ?_
      walk_at "wps"
      rw [upd_upd]
      exact fin _ _ _ _ (Int.emod_nonneg _ (by omega)) (Int.emod_lt_of_pos _ (by omega)) x0
abbrev s_law_box : Stmt := topS 37
theorem sc_law_box : FnScope ["script", "k", "own", "cell", "seed"] ["script", "k", "own"] (defScope s_law_box) := ⟨rfl, rfl, rfl, by decide +kernel, rfl, by decide +kernel, by decide +kernel⟩
theorem ok_box (D : Df K mg "_law_box" s_law_box ["script", "k", "own"]) (T : Txt mg) : Own P w K mg base "_law_box" 1 ["script", "k", "own"] (spBox K) := by
  refine D.own sc_law_box (fun vs H Q E h => ?_) (fun fa cdv A outer s H vs Q E hr h => ?_)
  · obtain ⟨_, _, _, _, rfl, _⟩ := h
    rfl
  · obtain ⟨a, ns, k, own, rfl, hS, hlen, kk⟩ := h
    refine ⟨_, (pss_cons (ps_set (i := 3) sc_law_box.nd rfl (Or.inl rfl) (pe_op op_add (pe_op op_add (pe_op op_mul pe_int (pv 1)) (pe_op op_mul pe_int (pv 2))) pe_int))
  (C8.pss_cut (ps_if (pt_cmpR op_lt (pv 1) (pe_callB call_len_seq (by rfl) T.len PySem.boot_len (pa_cons (pv 0) pa_nil)) (nomark _))
    (pss_one (ps_set (i := 3) sc_law_box.nd rfl (Or.inl rfl) (pe_callB call_abs (by rfl) T.abs (by decide +kernel) (pa_cons (pe_ix ix_list (pv 0) (pv 1) (fun _ _ => rfl)) pa_nil))))
    (pss_one (ps_if (pt_cmpR op_gt (pe_callB call_len_seq (by rfl) T.len PySem.boot_len (pa_cons (pv 0) pa_nil)) pe_int (nomark _))
        (pss_one (ps_set (i := 3) sc_law_box.nd rfl (Or.inl rfl) (pe_op op_add (pv 3) (pe_op op_mul (pe_op op_mod (pe_callTy call_int1 (by rfl) T.int (by decide +kernel) (pa_cons (pe_callB call_abs (by rfl) T.abs (by decide +kernel) (pa_cons (pe_ix ix_list (pv 0) (pe_op op_mod (pe_callTy call_int1 (by rfl) T.int (by decide +kernel) (pa_cons (pv 1) pa_nil)) (pe_callB call_len_seq (by rfl) T.len PySem.boot_len (pa_cons (pv 0) pa_nil))) (fun _ _ => rfl)) pa_nil)) pa_nil)) pe_int) pe_int))))
        pss_nil)))
  (pss_cons (ps_set (i := 4) sc_law_box.nd rfl (Or.inl rfl) (pe_op op_add (pe_op op_mod (pe_callTy call_int1 (by rfl) T.int (by decide +kernel) (pa_cons (pe_op op_add (pe_op op_mul (pe_op op_mod (pe_callTy call_int1 (by rfl) T.int (by decide +kernel) (pa_cons (pv 3) pa_nil)) pe_int) pe_int) (pe_op op_mul pe_int (pe_op op_add (pv 1) (pe_op op_mul pe_int (pv 2))))) pa_nil)) pe_int) pe_int))
  (pss_one (ps_ret (pe_lst (pa_cons (pe_ix ix_list (pe_lst (pa_cons pe_int (pa_cons (pv 3) pa_nil))) (pe_callTy call_int1 (by rfl) T.int (by decide +kernel) (pa_cons (pe_cmpR op_ge (pv 3) (pe_op op_pow pe_int pe_int) (nomark _)) pa_nil)) (fun _ _ => rfl)) (pa_cons (pv 4) (pa_cons pe_int pa_nil))))))))), ?_⟩
    walk_at "wps"
    refine ⟨fun σ' H' => (∃ c : Int, σ' = [some (.ref a), some (.int (k : Int)), some (.int own), some (.int c), none]) ∧ H' = H, ?_, ?_⟩
    · walk_at "wps"
      have hl : ((ns.map V.int).length : Int) = (ns.length : Int) := by rw [List.length_map]
      refine ite2 (fun c => ?_) (fun c => ?_)
      · have c' : k < ns.length := by
          have c2 : (k : Int) < ((ns.map V.int).length : Int) := by simpa using c
          omega
        walk_at "wps"
        refine ⟨_, _, _, _, rfl, rfl, hS, atI_nat (List.getElem?_eq_getElem (by rw [List.length_map]; exact c')), ?_⟩
        rw [List.getElem_map]
        walk_at "wps"
        exact ⟨⟨_, rfl⟩, rfl⟩
      · walk_at "wps"
        refine ite2 (fun d => ?_) (fun d => ?_)
        · have d' : 0 < ns.length := by
            have d2 : (0 : Int) < ((ns.map V.int).length : Int) := by simpa using d
            omega
          have hm : (k : Int) % ((ns.map V.int).length : Int) = ((k % ns.length : Nat) : Int) := by rw [hl]; simp
          have lt : k % ns.length < (ns.map V.int).length := by rw [List.length_map]; exact Nat.mod_lt _ d'
          walk_at "wps"
          refine ⟨_, _, _, _, rfl, rfl, hS, at_of hm (List.getElem?_eq_getElem lt), ?_⟩
          rw [List.getElem_map]
          walk_at "wps"
          exact ⟨⟨_, rfl⟩, rfl⟩
        · exact ⟨⟨_, rfl⟩, rfl⟩
    · rintro σ' H' ⟨⟨c, rfl⟩, rfl⟩
      walk_at "wps"
      refine ⟨Nat.le_of_ble_eq_true rfl, fun q hq => ?_⟩
      walk_at "wps"
      refine Or.inr ⟨_, rfl, ?_⟩
      have s1 : Same H' (upd H' q (.lst [.int 0, .int c])) := fun b o e => by
        rw [upd_ne (ne_of_none e hq)]
        exact e
      have fin : ∀ x : Int, 0 ≤ x → ∀ y : Int, ∀ p : Addr, upd H' q (.lst [.int 0, .int c]) p = none → Q (.ref p) (upd (upd H' q (.lst [.int 0, .int c])) p (.lst [.int x, .int y, .int 0])) := fun x x0 y p hp =>
        kk _ p (s1.trans fun b o e => by rw [upd_ne (ne_of_none e hp)]; exact e) (s1.free hp) ⟨x, y, 0, x0, upd_same⟩
      by_cases big : (10 : Int) ^ (18 : Int).toNat ≤ c
      · rw [decide_eq_true big]
        refine ⟨_, _, _, _, rfl, rfl, SqL.of upd_same, rfl, ?_⟩
        walk_at "wps"
        exact ⟨Nat.le_of_ble_eq_true rfl, fun p hp => fin c (Int.le_trans (by decide) big) _ p hp⟩
      · rw [decide_eq_false big]
        refine ⟨_, _, _, _, rfl, rfl, SqL.of upd_same, rfl, ?_⟩
        walk_at "wps"
        exact ⟨Nat.le_of_ble_eq_true rfl, fun p hp => fin 0 (Int.le_refl _) _ p hp⟩
abbrev s_law_pick : Stmt := topS 39
theorem sc_law_pick : FnScope ["box", "items"] ["box", "items"] (defScope s_law_pick) := ⟨rfl, rfl, rfl, by decide +kernel, rfl, by decide +kernel, by decide +kernel⟩
def spPick : Sp := fun vs H Q _ => ∃ (b a : Addr) (xs : List V), vs = [.ref b, .ref a] ∧ BoxAt H b ∧ a ≠ b ∧ H a = some (.lst xs) ∧ 0 < xs.length ∧ xs.length < 1000 ∧ ∀ (H' : Hp) (x : V), x ∈ xs → Bx b H H' → BoxAt H' b → Q x H'
theorem ok_pick (D : Df K mg "_law_pick" s_law_pick ["box", "items"]) (T : Txt mg) (o_law_take : Own P w K mg base "_law_take" 1 ["box", "many"] spTake) : Own P w K mg base "_law_pick" 2 ["box", "items"] spPick := by
  refine D.own sc_law_pick (fun vs H Q E h => ?_) (fun fa cdv A outer s H vs Q E hr h => ?_)
  · obtain ⟨_, _, _, rfl, _⟩ := h
    rfl
  · obtain ⟨b, a, xs, rfl, hb, nab, ha, l0, l1, k⟩ := h
    refine ⟨_, (pss_one (ps_ret (pe_ix ix_list (pv 1) (pe_own o_law_take (hr.mono (by decide)) (pa_cons (pv 0) (pa_cons (pe_callB call_len_seq (by rfl) T.len PySem.boot_len (pa_cons (pv 1) pa_nil)) pa_nil))) (fun _ _ => rfl)))), ?_⟩
    walk_at "s"
    refine ⟨by omega, hb, fun H1 n hn s1 b1 => ?_⟩
    have ha1 := s1 _ _ nab ha
    have hx : xs[n]? = some xs[n] := List.getElem?_eq_getElem hn
    refine ⟨_, _, _, _, rfl, rfl, SqL.of ha1, atI_nat hx, ?_⟩
    exact k _ _ (List.getElem_mem hn) s1 b1
end
end My

/-! a heap without one thing that changes -/
namespace My
open PySem PySem.Spec PyProof.Rows L2
def off (b : Addr) (H : Hp) : Hp := fun c => if c = b then none else H c
section
variable {b c p : Addr} {H H' H0 H1 H2 : Hp} {o : HO} {v : V} {d : PyData} {xs : List V} {ds : List PyData}
theorem off_at : off b H b = none := if_pos rfl
theorem off_ne (n : c ≠ b) : off b H c = H c := if_neg n
theorem off_of (h : off b H c = some o) : c ≠ b ∧ H c = some o := by
  by_cases e : c = b
  · rw [e, off_at] at h
    cases h
  · rw [off_ne e] at h
    exact ⟨e, h⟩
theorem off_same : Same (off b H) H := fun c o e => (off_of e).2
theorem off_upd : off b (upd H b o) = off b H := funext fun c => by
  by_cases e : c = b
  · rw [e, off_at, off_at]
  · rw [off_ne e, off_ne e, upd_ne e]
theorem off_upd_ne (n : p ≠ b) : off b (upd H p o) = upd (off b H) p o := funext fun c => by
  by_cases e : c = b
  · rw [e, off_at, upd_ne (Ne.symm n), off_at]
  · rw [off_ne e]
    by_cases e2 : c = p
    · rw [e2, upd_same, upd_same]
    · rw [upd_ne e2, upd_ne e2, off_ne e]
theorem off_to (s : Same H0 H) (n : H0 b = none) : Same H0 (off b H) := fun c o e => by
  rw [off_ne (ne_of_none e n)]
  exact s _ _ e
theorem off_off (s : Same H H') : Same (off b H) (off b H') := fun c o e => by
  rw [off_ne (off_of e).1]
  exact s _ _ (off_of e).2
theorem off_bx (s : Bx b H H') : Same (off b H) (off b H') := fun c o e => by
  rw [off_ne (off_of e).1]
  exact s _ _ (off_of e).1 (off_of e).2
theorem bx_off (s : Same (off b H) H') : Bx b H H' := fun c o n e => s c o (by rw [off_ne n]; exact e)
theorem off_free (n : off b H p = none) (ne : p ≠ b) : H p = none := by
  rw [off_ne ne] at n
  exact n
theorem off_none (n : H p = none) : off b H p = none := by
  by_cases e : p = b
  · rw [e, off_at]
  · rw [off_ne e, n]
end
end My

/-! xs.extend(ys), ys a list or a tuple -/
namespace MyE
open PySem PySem.Spec PyProof.Rows L2
theorem ext_tup (l : Addr) (items : Array Value) (n : Nat) (b : Addr) (items2 : Array Value) (hs0 : ¬(!items.isEmpty && Builtin.List.listTooLong (items.size + items2.size)) = true) (hs1 : items.size ≤ sizeLine) (hs2 : items.size + items2.size ≤ sizeLine + 1) :
    Meets (Builtin.«list.extend» ⟨[.ref l, .ref b], []⟩) (fun _ R s => s.heap.get? l = some { cls := .type "list", dict := none, data := .seq items n, slots := #[] } ∧ IsTup s.heap b items2 ∧ R (.ok (.ret Value.none)) { s with heap := s.heap.update l (Obj.mapSeq fun x => x ++ items2), toks := s.toks }) :=
  .of_wp fun prog w A R s h => by
    obtain ⟨hp, g, d, tk, os⟩ := s; obtain ⟨hl, ⟨⟨oc, od, ot, osl⟩, hb, c2, n2, d2⟩, h⟩ := h
    simp only at c2 d2
    subst c2 d2
    have f1 := AutoSeq1.idx_int; have f2 := AutoSeq1.sub_tuple_tuple; have f3 := AutoSeq1.sub_list_list; have f4 := AutoSeq1.sub_tuple_list; have f5 := AutoSeq1.sub_list_tuple;
    have hz' : (items ++ items2).size ≤ sizeLine + 1 := by rw [Array.size_append]; exact hs2
    wp_walk using (wpAny_updateSeq hl rfl (hz := hs1) (_hz' := hz')), wpAny_loadPart' hl, wpAny_loadPart' hb; exact ⟨_, rfl, h⟩
end MyE
namespace My
open PySem PySem.Spec PyProof.Rows L2
def rExtendS : V → List V → Hp → VK → Prop := fun x vs H Q => ∃ l b xs zs, x = .ref l ∧ vs = [.ref b] ∧ H l = some (.lst xs) ∧ (H b = some (.lst zs) ∨ H b = some (.tup zs)) ∧ xs.length + zs.length ≤ sizeLine ∧ Q .non (upd H l (.lst (xs ++ zs)))
theorem mt_extendS {X : Cx} : MtM X "list.extend" rExtendS := by
  intro pins s σ H x vs v us Q I rx rv h
  obtain ⟨l, b, xs, zs, rfl, rfl, hH, hB, hz, q⟩ := h
  rcases hB with hB | hB
  · exact mt_extend pins s σ H _ _ v us Q I rx rv ⟨l, b, xs, zs, rfl, rfl, hH, hB, hz, q⟩
  · cases rx
    obtain ⟨u, rfl, ru⟩ := rv.one
    cases ru
    obtain ⟨z, its, n, r, hl, e⟩ := I.lstM hH
    obtain ⟨z2, its2, r2, e2⟩ := I.hok b _ hB
    have hl2 : zs.length = its2.length := r2.length
    have hsz : its.toArray.size + its2.toArray.size ≤ sizeLine := by rw [List.size_toArray, List.size_toArray]; omega
    have hlong : ¬ (!its.toArray.isEmpty && Builtin.List.listTooLong (its.toArray.size + its2.toArray.size)) = true := by
      rw [notLongL hsz, Bool.and_false]
      exact Bool.false_ne_true
    refine call_meets F.slot_list_extend ⟨_, e, rfl⟩ F.entry_list_extend (F.args_list_extend_2 _ _)
      (MyE.ext_tup l its.toArray n b its2.toArray hlong (by rw [List.size_toArray]; omega) (by omega)) ⟨e, e2, ?_⟩
    refine ⟨.non, _, I.lset (its' := its ++ its2) hH e (by simp) (r.append r2) ?_, rfl, q⟩
    rw [List.length_append]
    omega
end My

namespace My
open PySem PySem.Spec PyProof.Rows L2
local macro_rules | `(tactic| walk_at "side") => `(tactic| first | (dsimp only; omega) | exact ⟨by omega, by omega⟩ | exact Or.inl ⟨by omega, by omega⟩ | exact Or.inr ⟨by omega, by omega⟩ | decide)
local macro_rules | `(tactic| walk_at "sq") => `(tactic| first | assumption | exact SqL.of (by assumption) | exact SqT.of (by assumption) | (refine L2.Same.seq (by assumption) ?_; walk_at "sq") | (refine L2.Same.seqT (by assumption) ?_; walk_at "sq") | exact Or.inl (by walk_at "sq") | exact Or.inr (by walk_at "sq"))
local macro_rules | `(tactic| walk_at "1") => `(tactic| first
  | refine ⟨_, rfl, iteT ?_⟩
  | refine ⟨_, rfl, iteF ?_⟩
  | refine ⟨_, rfl, ?_⟩
  | refine ⟨_, _, rfl, rfl, (by walk_at "side"), ?_⟩
  | refine ⟨_, _, rfl, rfl, ?_⟩
  | refine ⟨_, _, _, _, true, rfl, .ty _, .base (.int _), kit_ty (a := "int") (by decide +kernel), ?_⟩
  | refine ⟨_, _, _, _, false, rfl, .ty _, .base (.int _), kit_ty (a := "int") (by decide +kernel), ?_⟩
  | refine ⟨_, _, rfl, (by walk_at "sq"), ?_⟩
  | refine ⟨_, _, _, _, rfl, rfl, (by walk_at "sq"), (by first | rfl | assumption), ?_⟩
  | refine Or.inl ⟨_, _, _, _, rfl, rfl, (by walk_at "sq"), (by first | rfl | assumption), ?_⟩
  | refine Or.inr (Or.inl ⟨_, _, _, _, rfl, rfl, (by walk_at "sq"), (by first | rfl | assumption), ?_⟩)
  | refine ⟨_, _, rfl, Or.inl ⟨(by walk_at "sq"), ?_⟩⟩
  | refine ⟨rfl, ?_⟩
  | refine iteT ?_
  | refine iteF ?_
  | refine ⟨_, _, _, _, _, rfl, (by assumption), (by assumption), (by assumption), (by assumption), ?_⟩
  | refine Or.inl ⟨_, rfl, ?_⟩
  | refine Or.inr ⟨_, rfl, ?_⟩
  | refine ⟨_, _, rfl, (by walk_at "side"), ?_⟩
  | refine ⟨_, _, rfl, ?_⟩)
local macro_rules | `(tactic| walk_at "fld") => `(tactic| skip)
local macro_rules | `(tactic| walk_at "s") => `(tactic| repeat walk_at "1")
local macro_rules | `(tactic| walk_at "size") => `(tactic| first | exact Nat.le_of_ble_eq_true rfl | (simp only [List.length_map, List.length_append, List.length_cons, List.length_nil]; omega))
local macro_rules | `(tactic| walk_at "new") => `(tactic| (first | refine ⟨(by walk_at "size"), fun p hp => ?_⟩ | refine fun p hp => ?_); (generalize hq : upd _ p _ = H1); (obtain ⟨s, e⟩ := new_facts hp hq); clear hq)
/-- the first of some lists of names that are none, or not free -/
def wordN : List (Str × PyData) → List Str → Option Str
  | [], _ => none
  | (w, d) :: r, t => if (isSeqD d && areFree (itemsD d) t) = true then wordN r (t ++ strsD (itemsD d)) else some w
abbrev strsI (d : PyData) : List Str := strsD (itemsD d)
/-- the first wrong argument -/
def wordM (n i o s l c : PyData) : Option Str :=
  if isNameD n = true then
    match wordN [("inlets", i), ("outlets", o), ("stations", s)] [] with
    | some w => some w
    | none =>
      if (isSeqD l && (itemsD l).all (isRightD (strsI i ++ strsI s) (strsI s ++ strsI o) (lblS c))) = true then
        if (isSeqD c && ((itemsD c).all isCallD && areFree ((lblS c).map PyData.str) (strsI i ++ (strsI o ++ strsI s)))) = true then none else some "calls"
      else some "links"
  else some "name"
def wv : Option Str → V
  | none => .non
  | some w => .str w
theorem wordN_none {l : List (Str × PyData)} : ∀ {t : List Str}, wordN l t = none → ∀ x ∈ l, isSeqD x.2 = true ∧ (itemsD x.2).all isNameD = true := by
  induction l with
  | nil => exact fun _ x hx => nomatch hx
  | cons y r ih =>
    obtain ⟨w, d⟩ := y
    intro t h x hx
    unfold wordN at h
    split at h
    · rename_i c
      obtain ⟨c1, c2⟩ := Bool.and_eq_true_iff.mp c
      rcases List.mem_cons.mp hx with rfl | hx
      · exact ⟨c1, (Bool.and_eq_true_iff.mp c2).1⟩
      · exact ih h x hx
    · cases h
theorem labS_some {d : PyData} {z : Str} (h : labS d = some z) : ∃ r, d = .tuple (.str z :: r) := by
  unfold labS at h
  split at h
  · cases h
    exact ⟨_, rfl⟩
  · cases h
theorem lbl_ok {H : Hp} : ∀ {ds : List PyData} {xs : List V}, DvAll H xs ds → ∀ x ∈ ds.filterMap labS, okS x = true
  | [], _, _, x, hx => nomatch hx
  | d :: ds, _, h, x, hx => by
    obtain ⟨y, ys, rfl, hy, ht⟩ := h.inv
    rw [List.filterMap_cons] at hx
    cases hl : labS d with
    | none =>
      rw [hl] at hx
      exact lbl_ok ht x hx
    | some z =>
      rw [hl] at hx
      rcases List.mem_cons.mp hx with rfl | hx
      · obtain ⟨r, rfl⟩ := labS_some hl
        cases hy with
        | tup e h sm =>
          obtain ⟨_, _, _, q, _⟩ := h.inv
          cases q with
          | str q => exact q
      · exact lbl_ok ht x hx
theorem strsD_len (ds : List PyData) : (strsD ds).length ≤ ds.length := List.length_filterMap_le _ _
def spWrongM : Sp := fun vs H Q _ => ∃ (v0 v1 v2 v3 v4 v5 : V) (d0 d1 d2 d3 d4 d5 : PyData), vs = [v0, v1, v2, v3, v4, v5] ∧ Dv H v0 d0 ∧ Dv H v1 d1 ∧ Dv H v2 d2 ∧ Dv H v3 d3 ∧ Dv H v4 d4 ∧ Dv H v5 d5 ∧ (itemsD d5).all labOk = true ∧
  ∀ H', Same H H' → Q (wv (wordM d0 d1 d2 d3 d4 d5)) H'
section
variable {P : Program} {w : World} {K : PySem.W.Frag} {mg : Str → Option Value} {base : Heap}
abbrev s_wrong_argument : Stmt := topS 29
theorem sc_wrong_argument : FnScope ["name", "inlets", "outlets", "stations", "links", "calls", "taken", "word", "names", "labels", "begins", "ends", "link", "call"] ["name", "inlets", "outlets", "stations", "links", "calls"] (defScope s_wrong_argument) := ⟨rfl, rfl, rfl, by decide +kernel, rfl, by decide +kernel, by decide +kernel⟩
set_option maxHeartbeats 16000000 in
theorem ok_wrong (D : Df K mg "_wrong_argument" s_wrong_argument ["name", "inlets", "outlets", "stations", "links", "calls"]) (T : Txt mg) (o_is_name : Own P w K mg base "is_name" 1 ["value"] (spD isNameD)) (o_is_sequence : Own P w K mg base "is_sequence" 1 ["value"] (spD isSeqD))
    (o_are_free : Own P w K mg base "_are_free" 2 ["names", "taken"] spFree) (o_labels : Own P w K mg base "_labels" 2 ["calls"] spLabels) (o_is_call : Own P w K mg base "_is_call" 2 ["call"] (spD isCallD))
    (o_is_right_link : Own P w K mg base "_is_right_link" 4 ["link", "begins", "ends", "labels"] spRight) : Own P w K mg base "_wrong_argument" 5 ["name", "inlets", "outlets", "stations", "links", "calls"] spWrongM := by
  refine D.own sc_wrong_argument (fun vs H Q E h => ?_) (fun f cdv A outer s H vs Q E hr h => ?_)
  · obtain ⟨_, _, _, _, _, _, _, _, _, _, _, _, rfl, _⟩ := h
    rfl
  · obtain ⟨v0, v1, v2, v3, v4, v5, d0, d1, d2, d3, d4, d5, rfl, h0, h1, h2, h3, h4, h5, hlab, k⟩ := h
    refine ⟨_, (pss_cons (ps_if (pt_not (pt_val (pe_own o_is_name (hr.mono (by decide)) (pa_cons (pv 0) pa_nil))))
    (pss_one (ps_ret pe_str))
    pss_nil)
  (pss_cons (ps_set (i := 6) sc_wrong_argument.nd rfl (Or.inl rfl) (pe_lst pa_nil))
  (pss_cons (ps_for PassesOwn.never rfl (pi_tup (pe_tup (pa_cons (pe_tup (pa_cons pe_str (pa_cons (pv 1) pa_nil))) (pa_cons (pe_tup (pa_cons pe_str (pa_cons (pv 2) pa_nil))) (pa_cons (pe_tup (pa_cons pe_str (pa_cons (pv 3) pa_nil))) pa_nil))))) (pg_tup (by rfl) (pgs_cons (pg_name (i := 7) sc_wrong_argument.nd rfl (Or.inl rfl)) (pgs_cons (pg_name (i := 8) sc_wrong_argument.nd rfl (Or.inl rfl)) pgs_nil)))
    (pss_cons (ps_if (PW.pt (pw_or (pt_not (pt_val (pe_own o_is_sequence (hr.mono (by decide)) (pa_cons (pv 8) pa_nil)))) (pw_or1 (pt_not (pt_val (pe_own o_are_free (hr.mono (by decide)) (pa_cons (pv 8) (pa_cons (pv 6) pa_nil))))))))
        (pss_one (ps_ret (pv 7)))
        pss_nil)
      (pss_one (ps_expr (pe_bm PySem.F.plainAttrs_list PySem.F.slot_list_extend PySem.F.type_list_extend mt_extendS (pv 6) (pa_cons (pv 8) pa_nil))))))
  (pss_cons (ps_set (i := 9) sc_wrong_argument.nd rfl (Or.inr rfl) (pe_own o_labels (hr.mono (by decide)) (pa_cons (pv 5) pa_nil)))
  (pss_cons (ps_set (i := 10) sc_wrong_argument.nd rfl (Or.inr rfl) (pe_lst (StX.pa_star (pv 1) (StX.pa_star (pv 3) pa_nil))))
  (pss_cons (ps_set (i := 11) sc_wrong_argument.nd rfl (Or.inr rfl) (pe_lst (StX.pa_star (pv 3) (StX.pa_star (pv 2) pa_nil))))
  (pss_cons (ps_if (PW.pt (pw_or (pt_not (pt_val (pe_own o_is_sequence (hr.mono (by decide)) (pa_cons (pv 4) pa_nil)))) (pw_or1 (pt_not (pt_val (pe_callB (cr_all rfl) (by rfl) T.all (by decide +kernel) (pa_cons (pe_lc (own := [("link", 12)]) (g := gName 12) (tt := tYes) rfl sc_wrong_argument.nd (pi_alt (pi_list (pv 4)) (pi_tup (pv 4))) (blkOk_by (own := [("link", 12)]) (N := ["name", "inlets", "outlets", "stations", "links", "calls", "taken", "word", "names", "labels", "begins", "ends", "link", "call"]) (sc := defScope s_wrong_argument) (by decide +kernel)) (fun _ _ _ _ _ => (pg_name (i := 12) sc_wrong_argument.nd rfl (Or.inl rfl))) (fun _ _ _ _ _ => pts_nil) (fun _ _ _ _ _ => (pe_own o_is_right_link (hr.mono (by decide)) (pa_cons (pv 12) (pa_cons (pv 10) (pa_cons (pv 11) (pa_cons (pv 9) pa_nil))))))) pa_nil)))))))
    (pss_one (ps_ret pe_str))
    pss_nil)
  (pss_cons (ps_if (PW.pt (pw_or (pt_not (pt_val (pe_own o_is_sequence (hr.mono (by decide)) (pa_cons (pv 5) pa_nil)))) (pw_or (pt_not (pt_val (pe_callB (cr_all rfl) (by rfl) T.all (by decide +kernel) (pa_cons (pe_lc (own := [("call", 13)]) (g := gName 13) (tt := tYes) rfl sc_wrong_argument.nd (pi_alt (pi_list (pv 5)) (pi_tup (pv 5))) (blkOk_by (own := [("call", 13)]) (N := ["name", "inlets", "outlets", "stations", "links", "calls", "taken", "word", "names", "labels", "begins", "ends", "link", "call"]) (sc := defScope s_wrong_argument) (by decide +kernel)) (fun _ _ _ _ _ => (pg_name (i := 13) sc_wrong_argument.nd rfl (Or.inl rfl))) (fun _ _ _ _ _ => pts_nil) (fun _ _ _ _ _ => (pe_own o_is_call (hr.mono (by decide)) (pa_cons (pv 13) pa_nil)))) pa_nil)))) (pw_or1 (pt_not (pt_val (pe_own o_are_free (hr.mono (by decide)) (pa_cons (pv 9) (pa_cons (pv 6) pa_nil)))))))))
    (pss_one (ps_ret pe_str))
    pss_nil)
  (pss_one (ps_ret pe_non)))))))))), ?_⟩
    refine ⟨_, rfl, v0, d0, rfl, h0, fun H1 s1 => ⟨_, rfl, ?_⟩⟩
    cases hn : isNameD d0 with
    | false =>
      refine iteT ?_
      have := k _ s1
      rw [show wordM d0 d1 d2 d3 d4 d5 = some ("name" : Str) by unfold wordM; rw [if_neg (by rw [hn]; decide)]] at this
      exact this
    | true =>
      refine iteF ?_
      have k2 : ∀ H' wd, Same H H' → wd = (match wordN [("inlets", d1), ("outlets", d2), ("stations", d3)] [] with
    | some w => some w
    | none =>
      if (isSeqD d4 && (itemsD d4).all (isRightD (strsI d1 ++ strsI d3) (strsI d3 ++ strsI d2) (lblS d5))) = true then
        if (isSeqD d5 && ((itemsD d5).all isCallD && areFree ((lblS d5).map PyData.str) (strsI d1 ++ (strsI d2 ++ strsI d3)))) = true then none else some ("calls" : Str)
      else some ("links" : Str)) → Q (wv wd) H' := fun H' wd s' e => by
        have := k _ s'
        unfold wordM at this
        rw [if_pos hn] at this
        rw [e]
        exact this
      clear k
      refine ⟨Nat.zero_le _, fun L nL => ?_⟩
      generalize hq : upd H1 L _ = H2
      obtain ⟨s2, e2⟩ := new_facts nL hq
      clear hq
      refine ⟨v1, rfl, Nat.le_of_ble_eq_true rfl, fun p1 n1 => ?_⟩
      generalize hq : upd H2 p1 _ = H3
      obtain ⟨s3, e3⟩ := new_facts n1 hq
      clear hq
      refine ⟨v2, rfl, Nat.le_of_ble_eq_true rfl, fun p2 n2 => ?_⟩
      generalize hq : upd H3 p2 _ = H4
      obtain ⟨s4, e4⟩ := new_facts n2 hq
      clear hq
      refine ⟨v3, rfl, Nat.le_of_ble_eq_true rfl, fun p3 n3 => ?_⟩
      generalize hq : upd H4 p3 _ = H5
      obtain ⟨s5, e5⟩ := new_facts n3 hq
      clear hq
      refine ⟨Nat.le_of_ble_eq_true rfl, fun pt nt => ?_⟩
      generalize hq : upd H5 pt _ = H6
      obtain ⟨s6, e6⟩ := new_facts nt hq
      clear hq
      have fL : H L = none := s1.free nL
      have s06 : Same H H6 := s1.trans (s2.trans (s3.trans (s4.trans (s5.trans s6))))
      have eL6 : H6 L = some (.lst []) := s6 _ _ (s5 _ _ (s4 _ _ (s3 _ _ e2)))
      obtain ⟨G, hG⟩ : ∃ G, G = off L H6 := ⟨_, rfl⟩
      have sG : Same H G := hG ▸ off_to s06 fL
      have sG6 : Same G H6 := hG ▸ off_same
      have nG : G L = none := hG ▸ off_at
      have ng : ∀ {p : Addr} {o : HO}, H6 p = some o → o ≠ .lst [] → G p = some o := fun {p o} e ne => by
        rw [hG, off_ne (fun z => ne (by rw [z, eL6] at e; exact (Option.some.inj e).symm))]
        exact e
      have g1 : G p1 = some (.tup [.str "inlets", v1]) := ng (s6 _ _ (s5 _ _ (s4 _ _ e3))) (by intro z; cases z)
      have g2 : G p2 = some (.tup [.str "outlets", v2]) := ng (s6 _ _ (s5 _ _ e4)) (by intro z; cases z)
      have g3 : G p3 = some (.tup [.str "stations", v3]) := ng (s6 _ _ e5) (by intro z; cases z)
      have gt : G pt = some (.tup [.ref p1, .ref p2, .ref p3]) := ng e6 (by intro z; cases z)
      have h0 := h0.same sG
      have h1 := h1.same sG
      have h2 := h2.same sG
      have h3 := h3.same sG
      have h4 := h4.same sG
      have h5 := h5.same sG
      clear s2 s3 s4 s5 s6 e2 e3 e4 e5 e6 n1 n2 n3 nt s06 s1 nL
      have k3 : ∀ H' wd, Same G H' → wd = _ → Q (wv wd) H' := fun H' wd s' e => k2 H' wd (sG.trans s') e
      clear k2 sG
      obtain ⟨all, hall⟩ : ∃ all : List (Str × PyData), all = [(("inlets" : Str), d1), (("outlets" : Str), d2), (("stations" : Str), d3)] := ⟨_, rfl⟩
      have at_ : ∀ (i : Nat) (x : V), [V.ref p1, V.ref p2, V.ref p3][i]? = some x → ∃ p w v d, x = .ref p ∧ G p = some (.tup [.str w, v]) ∧ Dv G v d ∧ all.drop i = (w, d) :: all.drop (i + 1) := fun i x hx => by
        rw [hall]
        match i, hx with
        | 0, hx => cases hx; exact ⟨p1, _, v1, d1, rfl, g1, h1, rfl⟩
        | 1, hx => cases hx; exact ⟨p2, _, v2, d2, rfl, g2, h2, rfl⟩
        | 2, hx => cases hx; exact ⟨p3, _, v3, d3, rfl, g3, h3, rfl⟩
        | _ + 3, hx => cases hx
      have dl : all.drop 3 = [] := by rw [hall]; rfl
      have dfull : all.flatMap (fun x => strsI x.2) = strsI d1 ++ (strsI d2 ++ strsI d3) := by
        rw [hall]
        simp [List.flatMap_cons]
      rw [← hall] at k3
      have hnone : wordN all [] = none → (isSeqD d1 = true ∧ (itemsD d1).all isNameD = true) ∧ (isSeqD d2 = true ∧ (itemsD d2).all isNameD = true) ∧ (isSeqD d3 = true ∧ (itemsD d3).all isNameD = true) := fun z => by
        have := wordN_none z
        rw [hall] at this
        exact ⟨this _ (.head _), this _ (.tail _ (.head _)), this _ (.tail _ (.tail _ (.head _)))⟩
      refine ⟨pt, rfl, ⟨_, SqT.of (sG6 _ _ gt)⟩, for_seq (seqIt_t (SqT.of gt)) (fun i σ' H' => ∃ (t : List Str) (y z : Option V), σ' = [some v0, some v1, some v2, some v3, some v4, some v5, some (.ref L), y, z, none, none, none, none, none] ∧ Same G H' ∧ H' L = some (.lst (t.map V.str)) ∧
        wordN all [] = wordN (all.drop i) t ∧ t ++ (all.drop i).flatMap (fun x => strsI x.2) = all.flatMap (fun x => strsI x.2) ∧ t.length ≤ 2000 * i) ⟨[], none, none, rfl, sG6, eL6, rfl, rfl, Nat.zero_le _⟩ (fun i σ' H' q => by obtain ⟨_, _, _, _, q, _⟩ := q; exact q) ?_ ?_⟩
      · rintro i x σ' H' hx ⟨t, y, z, rfl, s', eL, ew, ef, el⟩
        obtain ⟨p, wd, v, d, rfl, gp, hd, ed⟩ := at_ i x hx
        have hi : i < 3 := (List.getElem?_eq_some_iff.mp hx).1
        refine ⟨p, _, rfl, SqT.of (s' _ _ gp), rfl, _, _, rfl, _, _, rfl, rfl, ?_⟩
        have hd' := hd.same s'
        refine ⟨_, rfl, v, d, rfl, hd', fun Ha sa => ⟨_, rfl, ?_⟩⟩
        rw [ed] at ew ef
        cases hseq : isSeqD d with
        | false =>
          refine iteT ?_
          refine iteT ?_
          refine ⟨_, rfl, ?_⟩
          refine k3 Ha (some wd) (s'.trans sa) ?_
          rw [ew]
          unfold wordN
          rw [if_neg (by rw [hseq]; exact Bool.false_ne_true)]
        | true =>
          refine iteF ?_
          refine ⟨_, rfl, _, rfl, v, d, L, t, rfl, hd'.same sa, hseq, sa _ _ eL, fun Hb sb => ⟨_, rfl, ?_⟩⟩
          have sab := sa.trans sb
          have sGb := s'.trans sab
          cases hfree : areFree (itemsD d) t with
          | false =>
            refine iteT ?_
            refine ⟨_, rfl, ?_⟩
            refine k3 Hb (some wd) sGb ?_
            rw [ew]
            unfold wordN
            rw [if_neg (by rw [hseq, hfree]; exact Bool.false_ne_true)]
          | true =>
            refine iteF ?_
            have ew2 : wordN all [] = wordN (all.drop (i + 1)) (t ++ strsI d) := by
              rw [ew]
              show (if (isSeqD d && areFree (itemsD d) t) = true then wordN (all.drop (i + 1)) (t ++ strsD (itemsD d)) else some wd) = _
              rw [if_pos (by rw [hseq, hfree]; rfl)]
            obtain ⟨a, xs, rfl, hS, hX, hL, hor⟩ := (hd.same sGb).seq (K := K) hseq
            have hnm : (itemsD d).all isNameD = true := (Bool.and_eq_true_iff.mp hfree).1
            obtain ⟨ex, _⟩ := names_str hX hnm
            rw [ex] at hor
            have ls : (strsI d).length ≤ 2000 := Nat.le_trans (strsD_len _) hL
            refine ⟨_, rfl, Or.inl ⟨rfl, _, SqL.of (sab _ _ eL)⟩, _, rfl, L, a, t.map V.str, (strsI d).map V.str, rfl, rfl, sab _ _ eL, hor, ?_, t ++ strsI d, _, _, rfl, ?_, ?_, ew2, ?_, ?_⟩
            · rw [List.length_map, List.length_map]
              exact Nat.le_of_lt (Nat.lt_of_le_of_lt (by omega : t.length + (strsI d).length ≤ 8000) (by decide))
            · exact sGb.upd1 nG
            · rw [upd_same, List.map_append]
            · rw [← ef, List.flatMap_cons, List.append_assoc]
            · rw [List.length_append]
              omega
      · rintro σ' H' ⟨t, y, z, rfl, s', eL, ew, ef, el⟩
        have el : t.length ≤ 2000 * 3 := el
        rw [show [V.ref p1, V.ref p2, V.ref p3].length = 3 from rfl, dl] at ew ef
        have ewn : wordN all [] = none := ew
        obtain ⟨⟨q1, a1⟩, ⟨q2, a2⟩, ⟨q3, a3⟩⟩ := hnone ewn
        have et : t = strsI d1 ++ (strsI d2 ++ strsI d3) := by
          rw [← dfull, ← ef, List.flatMap_nil, List.append_nil]
        rw [ewn] at k3
        clear at_ hnone ew ef dl dfull hall g1 g2 g3 gt
        refine ⟨_, rfl, v5, d5, rfl, h5.same s', hlab, fun B H7 s7 nB eB => ?_⟩
        obtain ⟨A1, xs1, rfl, hS1, hX1, hL1, hor1⟩ := h1.seq (K := K) q1
        obtain ⟨A2, xs2, rfl, hS2, hX2, hL2, hor2⟩ := h2.seq (K := K) q2
        obtain ⟨A3, xs3, rfl, hS3, hX3, hL3, hor3⟩ := h3.seq (K := K) q3
        obtain ⟨ex1, _⟩ := names_str hX1 a1
        obtain ⟨ex2, _⟩ := names_str hX2 a2
        obtain ⟨ex3, _⟩ := names_str hX3 a3
        have ls1 : (strsD (itemsD d1)).length ≤ 2000 := Nat.le_trans (strsD_len _) hL1
        have ls2 : (strsD (itemsD d2)).length ≤ 2000 := Nat.le_trans (strsD_len _) hL2
        have ls3 : (strsD (itemsD d3)).length ≤ 2000 := Nat.le_trans (strsD_len _) hL3
        have big : ∀ {n : Nat}, n ≤ 8000 → n ≤ sizeLine := fun h => Nat.le_of_lt (Nat.lt_of_le_of_lt h (by decide))
        subst ex1 ex2 ex3
        have sG7 := s'.trans s7
        refine ⟨_, rfl, A1, _, rfl, (sG7.sqs hS1).symm, _, rfl, A3, _, rfl, (sG7.sqs hS3).symm, ?_⟩
        refine ⟨big (by simp only [List.length_append, List.length_map, List.length_nil]; omega), fun b1 nb1 => ?_⟩
        generalize hq : upd H7 b1 _ = H8
        obtain ⟨s8, e8⟩ := new_facts nb1 hq
        clear hq
        have sG8 := sG7.trans s8
        refine ⟨_, rfl, A3, _, rfl, (sG8.sqs hS3).symm, _, rfl, A2, _, rfl, (sG8.sqs hS2).symm, ?_⟩
        refine ⟨big (by simp only [List.length_append, List.length_map, List.length_nil]; omega), fun b2 nb2 => ?_⟩
        generalize hq : upd H8 b2 _ = H9
        obtain ⟨s9, e9⟩ := new_facts nb2 hq
        clear hq
        have sG9 := sG8.trans s9
        rw [List.append_nil, ← List.map_append] at e8 e9
        have e8' : H9 b1 = some (.lst ((strsI d1 ++ strsI d3).map V.str)) := s9 _ _ e8
        have eB' : H9 B = some (.lst ((lblS d5).map V.str)) := s9 _ _ (s8 _ _ eB)
        have eL' : H9 L = some (.lst (t.map V.str)) := s9 _ _ (s8 _ _ (s7 _ _ eL))
        have h4' := h4.same sG9
        have h5' := h5.same sG9
        rw [← et] at k3
        generalize strsI d1 ++ strsI d3 = bs at e8' k3
        generalize strsI d3 ++ strsI d2 = es at e9 k3
        have k4 : ∀ H' wd, Same H9 H' → wd = (if (isSeqD d4 && (itemsD d4).all (isRightD bs es (lblS d5))) = true then
        if (isSeqD d5 && ((itemsD d5).all isCallD && areFree ((lblS d5).map PyData.str) t)) = true then none else some ("calls" : Str)
      else some ("links" : Str)) → Q (wv wd) H' := fun H' wd s'' e => k3 H' wd (sG9.trans s'') e
        clear k3 h0 h1 h2 h3 h4 h5 hS1 hS2 hS3 hX1 hX2 hX3 sG9 sG8 sG7 s' sG6 s7 s8 s9 eB eL e8 nb1 nb2 nB
        refine ⟨_, rfl, v4, d4, rfl, h4', fun Ha sa => ⟨_, rfl, ?_⟩⟩
        cases hq4 : isSeqD d4 with
        | false =>
          refine iteT ?_
          refine iteT ?_
          exact k4 Ha (some ("links" : Str)) sa (by rw [if_neg (by rw [hq4]; exact Bool.false_ne_true)])
        | true =>
          refine iteF ?_
          obtain ⟨A4, xs4, rfl, hS4, hX4, hL4, _⟩ := (h4'.same sa).seq (K := K) hq4
          have ln4 := hX4.len
          rw [hq4, Bool.true_and] at k4
          generalize itemsD d4 = ds4 at hX4 hL4 ln4 k4
          refine seq_pi hS4 rfl fun J hJ => fun M nM => lc_seq hJ (fun i H' => Same Ha H' ∧ H' M = some (.lst (((ds4.take i).map (isRightD bs es (lblS d5))).map V.bl))) ⟨same_upd nM, upd_same⟩ (fun i H' q => q.1) ?_ ?_
          · rintro i x H' hx ⟨s1, e1⟩
            obtain ⟨e, he, hxe⟩ := hX4.get hx
            have hi : i < ds4.length := (List.getElem?_eq_some_iff.mp he).1
            refine ⟨rfl, _, rfl, _, rfl, _, rfl, _, rfl, x, e, b1, b2, B, bs, es, lblS d5, rfl, hxe.same s1, s1 _ _ (sa _ _ e8'), s1 _ _ (sa _ _ e9), s1 _ _ (sa _ _ eB'), fun H2 s2 => ⟨_, s2 _ _ e1, ?_, (s1.trans s2).upd1 nM, ?_⟩⟩
            · rw [List.length_map, List.length_map, List.length_take]
              exact small1000_2 (by omega)
            · rw [upd_same, List.take_add_one, he, List.map_append, List.map_append]
              rfl
          · rintro Hb ⟨sb, eb⟩
            rw [ln4, List.take_length] at eb
            refine ⟨M, _, rfl, SqL.of eb, _, rfl, ?_⟩
            have ea : (ds4.map (isRightD bs es (lblS d5))).all id = ds4.all (isRightD bs es (lblS d5)) := by rw [List.all_map]; rfl
            rw [ea]
            have sab := sa.trans sb
            cases hr4 : ds4.all (isRightD bs es (lblS d5)) with
            | false =>
              refine iteT ?_
              exact k4 Hb (some ("links" : Str)) sab (by rw [if_neg (by rw [hr4]; exact Bool.false_ne_true)])
            | true =>
              refine iteF ?_
              rw [if_pos hr4] at k4
              have h5b := h5'.same sab
              refine ⟨_, rfl, v5, d5, rfl, h5b, fun Hc sc => ⟨_, rfl, ?_⟩⟩
              have sac := sab.trans sc
              cases hq5 : isSeqD d5 with
              | false =>
                refine iteT ?_
                refine iteT ?_
                exact k4 Hc (some ("calls" : Str)) sac (by rw [if_neg (by rw [hq5]; exact Bool.false_ne_true)])
              | true =>
                refine iteF ?_
                obtain ⟨A5, xs5, rfl, hS5, hX5, hL5, _⟩ := (h5b.same sc).seq (K := K) hq5
                have ln5 := hX5.len
                have lok := lbl_ok hX5
                have lle : (lblS d5).length ≤ 2000 := Nat.le_trans (List.length_filterMap_le _ _) hL5
                rw [hq5, Bool.true_and] at k4
                have lok' : ∀ x ∈ lblS d5, okS x = true := lok
                clear lok
                generalize lblS d5 = lb at lok' lle k4 eB' hr4
                generalize itemsD d5 = ds5 at hX5 hL5 ln5 k4
                refine seq_pi hS5 rfl fun J hJ => fun M2 nM2 => lc_seq hJ (fun i H' => Same Hc H' ∧ H' M2 = some (.lst (((ds5.take i).map isCallD).map V.bl))) ⟨same_upd nM2, upd_same⟩ (fun i H' q => q.1) ?_ ?_
                · rintro i x H' hx ⟨s1, e1⟩
                  obtain ⟨e, he, hxe⟩ := hX5.get hx
                  have hi : i < ds5.length := (List.getElem?_eq_some_iff.mp he).1
                  refine ⟨rfl, _, rfl, x, e, rfl, hxe.same s1, fun H2 s2 => ⟨_, s2 _ _ e1, ?_, (s1.trans s2).upd1 nM2, ?_⟩⟩
                  · rw [List.length_map, List.length_map, List.length_take]
                    exact small1000_2 (by omega)
                  · rw [upd_same, List.take_add_one, he, List.map_append, List.map_append]
                    rfl
                · rintro Hd ⟨sd, ed⟩
                  rw [ln5, List.take_length] at ed
                  refine ⟨M2, _, rfl, SqL.of ed, _, rfl, ?_⟩
                  have ea : (ds5.map isCallD).all id = ds5.all isCallD := by rw [List.all_map]; rfl
                  rw [ea]
                  have sad := sac.trans sd
                  cases hr5 : ds5.all isCallD with
                  | false =>
                    refine iteT ?_
                    refine iteT ?_
                    exact k4 Hd (some ("calls" : Str)) sad (by rw [if_neg (by rw [hr5]; exact Bool.false_ne_true)])
                  | true =>
                    refine iteF ?_
                    refine ⟨_, rfl, _, rfl, .ref B, .list (lb.map PyData.str), L, t, rfl, .lst (sad _ _ eB') (dvAll_str lok') (by rw [List.length_map]; exact lle), rfl, sad _ _ eL', fun He se => ⟨_, rfl, ?_⟩⟩
                    rw [show itemsD (.list (lb.map PyData.str)) = lb.map PyData.str from rfl]
                    have sae := sad.trans se
                    rw [hr5, Bool.true_and] at k4
                    cases hfr : areFree (lb.map PyData.str) t with
                    | false =>
                      refine iteT ?_
                      exact k4 He (some ("calls" : Str)) sae (by rw [if_neg (by rw [hfr]; exact Bool.false_ne_true)])
                    | true =>
                      refine iteF ?_
                      exact k4 He none sae (by rw [if_pos hfr])
end
end My

namespace My
open PySem PySem.Spec PyProof.Rows L2
local macro_rules | `(tactic| walk_at "side") => `(tactic| first | (dsimp only; omega) | exact ⟨by omega, by omega⟩ | exact Or.inl ⟨by omega, by omega⟩ | exact Or.inr ⟨by omega, by omega⟩ | decide)
local macro_rules | `(tactic| walk_at "sq") => `(tactic| first | assumption | exact SqL.of (by assumption) | exact SqT.of (by assumption) | (refine L2.Same.seq (by assumption) ?_; walk_at "sq") | (refine L2.Same.seqT (by assumption) ?_; walk_at "sq") | exact Or.inl (by walk_at "sq") | exact Or.inr (by walk_at "sq"))
local macro_rules | `(tactic| walk_at "1") => `(tactic| first
  | refine ⟨_, rfl, iteT ?_⟩
  | refine ⟨_, rfl, iteF ?_⟩
  | refine ⟨_, rfl, ?_⟩
  | refine ⟨_, _, rfl, rfl, (by walk_at "side"), ?_⟩
  | refine ⟨_, _, rfl, rfl, ?_⟩
  | refine ⟨_, _, _, _, true, rfl, .ty _, .base (.int _), kit_ty (a := "int") (by decide +kernel), ?_⟩
  | refine ⟨_, _, _, _, false, rfl, .ty _, .base (.int _), kit_ty (a := "int") (by decide +kernel), ?_⟩
  | refine ⟨_, _, rfl, (by walk_at "sq"), ?_⟩
  | refine ⟨_, _, _, _, rfl, rfl, (by walk_at "sq"), (by first | rfl | assumption), ?_⟩
  | refine Or.inl ⟨_, _, _, _, rfl, rfl, (by walk_at "sq"), (by first | rfl | assumption), ?_⟩
  | refine Or.inr (Or.inl ⟨_, _, _, _, rfl, rfl, (by walk_at "sq"), (by first | rfl | assumption), ?_⟩)
  | refine ⟨_, _, rfl, Or.inl ⟨(by walk_at "sq"), ?_⟩⟩
  | refine ⟨rfl, ?_⟩
  | refine iteT ?_
  | refine iteF ?_
  | refine ⟨_, _, _, _, _, rfl, (by assumption), (by assumption), (by assumption), (by assumption), ?_⟩
  | refine Or.inl ⟨_, rfl, ?_⟩
  | refine Or.inr ⟨_, rfl, ?_⟩
  | refine ⟨_, _, rfl, (by walk_at "side"), ?_⟩
  | refine ⟨_, _, rfl, ?_⟩)
local macro_rules | `(tactic| walk_at "fld") => `(tactic| skip)
local macro_rules | `(tactic| walk_at "s") => `(tactic| repeat walk_at "1")
local macro_rules | `(tactic| walk_at "size") => `(tactic| first | exact Nat.le_of_ble_eq_true rfl | (simp only [List.length_map, List.length_append, List.length_cons, List.length_nil]; omega))
local macro_rules | `(tactic| walk_at "new") => `(tactic| (first | refine ⟨(by walk_at "size"), fun p hp => ?_⟩ | refine fun p hp => ?_); (generalize hq : upd _ p _ = H1); (obtain ⟨s, e⟩ := new_facts hp hq); clear hq)
/-- the class of modules lets its attributes be set -/
structure ModCls (K : PySem.W.Frag) (C : Addr) : Prop where
  cl : Cls K C
  n0 : NoAttr K C "name"
  n1 : NoAttr K C "inlets"
  n2 : NoAttr K C "outlets"
  n3 : NoAttr K C "stations"
  n4 : NoAttr K C "links"
  n5 : NoAttr K C "calls"
/-- the class of the error -/
structure ErrM (P : Program) (w : World) (K : PySem.W.Frag) (mg : Str → Option Value) (base : Heap) (D : Addr) (sp : Sp) : Prop where
  ex : ∃ fI fd, OexC K D ∧ PySem.W.findIn K (.ref D) "__init__" = some (some (.ref fI)) ∧ PySem.W.typeIn K (.ref fI) = some (.type "function") ∧ FnOk P w K mg base CX0 1 fI fd ["self", "word"] sp ∧ Binds K fd ["self", "word"] [] ∧ mg "InvalidModule" = some (.ref D)
def rTupOf (K : PySem.W.Frag) : List V → Hp → VK → Prop := fun xs H Q => ∃ p ys, xs = [.ref p] ∧ ((SqL K H p ys ∧ ∀ l, H l = none → Q (.ref l) (upd H l (.tup ys))) ∨ (SqT K H p ys ∧ Q (.ref p) H))
theorem call_tupleN {X : Cx} : CallR X (.type "tuple") (rTupOf X.K) := call_tuple_of
/-- tuple(xs), xs a list or a tuple of data: what it gives stands still, too -/
theorem rd_tupleOf {K : PySem.W.Frag} {G H : Hp} {v : V} {d : PyData} {Q : VK} (s : Same G H) (hv : Dv G v d) (hq : isSeqD d = true)
    (k : ∀ H' G' t, Same H H' → Same G G' → Same G' H' → (∀ c o, G c = none → H c = some o → G' c = none) → Dv G' (.ref t) (.tuple (itemsD d)) → Q (.ref t) H') :
    rTupOf K [v] H Q := by
  cases hv with
  | @lst a xs ds e h sm =>
    refine ⟨a, xs, rfl, Or.inl ⟨SqL.of (s _ _ e), fun l nl => ?_⟩⟩
    have sg : Same G (upd G l (.tup xs)) := same_upd (s.free nl)
    refine k _ (upd G l (.tup xs)) l (same_upd nl) sg (fun c o e => ?_) (fun c o e1 e2 => ?_) (.tup upd_same (h.same sg) sm)
    · by_cases q : c = l
      · rw [q, upd_same] at e ⊢
        exact e
      · rw [upd_ne q] at e ⊢
        exact s _ _ e
    · rw [upd_ne (ne_of_none e2 nl)]
      exact e1
  | @tup a xs ds e h sm => exact ⟨a, xs, rfl, Or.inr ⟨SqT.of (s _ _ e), k H G a (Same.refl _) (Same.refl _) s (fun _ _ e _ => e) (.tup e h sm)⟩⟩
  | _ => cases hq
/-- a module that is made stands at p -/
structure ModAt (C : Addr) (H : Hp) (p : Addr) (v0 : V) (d1 d2 d3 d4 d5 : PyData) : Prop where
  ex : ∃ (dx t1 t2 t3 t4 t5 : Addr), H p = some (.ins C dx [("name", v0), ("inlets", .ref t1), ("outlets", .ref t2), ("stations", .ref t3), ("links", .ref t4), ("calls", .ref t5)]) ∧
    Dv H (.ref t1) (.tuple (itemsD d1)) ∧ Dv H (.ref t2) (.tuple (itemsD d2)) ∧ Dv H (.ref t3) (.tuple (itemsD d3)) ∧ Dv H (.ref t4) (.tuple (itemsD d4)) ∧ Dv H (.ref t5) (.tuple (itemsD d5))
theorem wordM_none {n i o s l c : PyData} (h : wordM n i o s l c = none) : isSeqD i = true ∧ isSeqD o = true ∧ isSeqD s = true ∧ isSeqD l = true ∧ isSeqD c = true := by
  unfold wordM at h
  split at h
  · split at h
    · cases h
    · rename_i e
      have := wordN_none e
      split at h
      · rename_i e1
        split at h
        · rename_i e2
          exact ⟨(this _ (.head _)).1, (this _ (.tail _ (.head _))).1, (this _ (.tail _ (.tail _ (.head _)))).1, (Bool.and_eq_true_iff.mp e1).1, (Bool.and_eq_true_iff.mp e2).1⟩
        · cases h
      · cases h
  · cases h
section
variable {P : Program} {w : World} {K : PySem.W.Frag} {mg : Str → Option Value} {base : Heap} {C D : Addr}
abbrev s_IM_init : Stmt := inClass (topS 2) 0
theorem sc_IM_init : FnScope ["self", "word"] ["self", "word"] (defScope s_IM_init) := ⟨rfl, rfl, rfl, by decide +kernel, rfl, by decide +kernel, by decide +kernel⟩
def spErr (D : Addr) : Sp := fun vs H Q _ => ∃ (a : Addr) (y : V), vs = [.ref a, y] ∧ H a = some (exo a D none) ∧ ∀ dx, H dx = none → dx ≠ a → Q .non (upd (upd H dx (exd dx [("word", y)])) a (exo a D (some dx)))
theorem ok_err {f1 : Addr} {fd : FuncData} (F : Fun K "__init__" "InvalidModule.__init__" s_IM_init f1 fd) (O : OexC K D) (nw : PySem.W.findIn K (.ref D) "word" = some none) : FnOk P w K mg base CX0 1 f1 fd ["self", "word"] (spErr D) := by
  refine F.ok sc_IM_init (fun vs H Q E h => ?_) (fun cdv A outer s H vs Q E hr h => ?_)
  · obtain ⟨_, _, rfl, _⟩ := h
    rfl
  · obtain ⟨a, y, rfl, e, k⟩ := h
    refine ⟨_, pss_one (ps_ost (pv 0) (pv 1)), ?_⟩
    exact ⟨_, rfl, _, rfl, a, D, rfl, O, nw, Or.inl ⟨e, fun dx n ne => k dx n ne⟩⟩
abbrev s_Module_init : Stmt := inClass (topS 27) 0
theorem sc_Module_init : FnScope ["self", "name", "inlets", "outlets", "stations", "links", "calls", "word"] ["self", "name", "inlets", "outlets", "stations", "links", "calls"] (defScope s_Module_init) := ⟨rfl, rfl, rfl, by decide +kernel, rfl, by decide +kernel, by decide +kernel⟩
/-- a module is made, or the wrong argument told -/
def spInitM (C D : Addr) : Sp := fun vs H Q E => ∃ (H0 : Hp) (p dx : Addr) (v0 v1 v2 v3 v4 v5 : V) (d0 d1 d2 d3 d4 d5 : PyData), vs = [.ref p, v0, v1, v2, v3, v4, v5] ∧ H0 p = none ∧ Same H0 H ∧ H p = some (.ins C dx []) ∧
  Dv H0 v0 d0 ∧ Dv H0 v1 d1 ∧ Dv H0 v2 d2 ∧ Dv H0 v3 d3 ∧ Dv H0 v4 d4 ∧ Dv H0 v5 d5 ∧ (itemsD d5).all labOk = true ∧
  (∀ w, wordM d0 d1 d2 d3 d4 d5 = some w → ∀ H' d, Same H0 H' → H' d = some (.xd [("word", .str w)]) → E (.ref D) (some d) H') ∧
  (wordM d0 d1 d2 d3 d4 d5 = none → ∀ H', Same H0 H' → ModAt C H' p v0 d1 d2 d3 d4 d5 → Q .non H')
set_option maxHeartbeats 16000000 in
theorem ok_init {f1 : Addr} {fd : FuncData} {u : V} (F : FunD K "__init__" "Module.__init__" (defArgs s_Module_init) (defBody s_Module_init) (defScope s_Module_init) [u] [] f1 fd) (R : ModCls K C) (T : Txt mg) (X : ErrM P w K mg base D (spErr D))
    (o_wrong_argument : Own P w K mg base "_wrong_argument" 5 ["name", "inlets", "outlets", "stations", "links", "calls"] spWrongM) : FnOk P w K mg base (L2.CX P w) 6 f1 fd ["self", "name", "inlets", "outlets", "stations", "links", "calls"] (spInitM C D) := by
  obtain ⟨fI, fdI, OX, iC, tI, FI, bI, mI⟩ := X.ex
  refine F.ok sc_Module_init (fun vs H Q E h => ?_) (fun cdv A outer s H vs Q E hr h => ?_)
  · obtain ⟨_, _, _, _, _, _, _, _, _, _, _, _, _, _, _, rfl, _⟩ := h
    rfl
  · obtain ⟨H0, p, dx, v0, v1, v2, v3, v4, v5, d0, d1, d2, d3, d4, d5, rfl, hp0, s0, hp, h0, h1, h2, h3, h4, h5, hl, kE, kQ⟩ := h
    refine ⟨_, (pss_cons (ps_set (i := 7) sc_Module_init.nd rfl (Or.inl rfl) (pe_own o_wrong_argument (hr.mono (by decide)) (pa_cons (pv 1) (pa_cons (pv 2) (pa_cons (pv 3) (pa_cons (pv 4) (pa_cons (pv 5) (pa_cons (pv 6) pa_nil))))))))
  (pss_cons (ps_if (pt_cmpR op_notN (pv 7) pe_non (nomark _))
    (pss_one (ps_raise rfl (takes_of rfl rfl rfl rfl) (pmk_oex OX iC tI FI (hr.mono (by decide)) bI .nil pass0 rfl mI (pa_cons (pv 7) pa_nil))))
    pss_nil)
  (pss_cons (ps_fld (pv 0) (pv 1) rfl)
  (pss_cons (ps_fld (pv 0) (pe_callTy call_tupleN (by rfl) T.tuple (by decide +kernel) (pa_cons (pv 2) pa_nil)) rfl)
  (pss_cons (ps_fld (pv 0) (pe_callTy call_tupleN (by rfl) T.tuple (by decide +kernel) (pa_cons (pv 3) pa_nil)) rfl)
  (pss_cons (ps_fld (pv 0) (pe_callTy call_tupleN (by rfl) T.tuple (by decide +kernel) (pa_cons (pv 4) pa_nil)) rfl)
  (pss_cons (ps_fld (pv 0) (pe_callTy call_tupleN (by rfl) T.tuple (by decide +kernel) (pa_cons (pv 5) pa_nil)) rfl)
  (pss_one (ps_fld (pv 0) (pe_callTy call_tupleN (by rfl) T.tuple (by decide +kernel) (pa_cons (pv 6) pa_nil)) rfl))))))))), ?_⟩
    refine ⟨_, rfl, _, rfl, _, rfl, _, rfl, _, rfl, _, rfl, v0, v1, v2, v3, v4, v5, d0, d1, d2, d3, d4, d5, rfl, h0.same s0, h1.same s0, h2.same s0, h3.same s0, h4.same s0, h5.same s0, hl, fun H1 s1 => ?_⟩
    have s01 := s0.trans s1
    cases hw : wordM d0 d1 d2 d3 d4 d5 with
    | some w' =>
      refine ⟨_, rfl, rfl, _, rfl, ?_⟩
      refine iteT ?_
      refine ⟨_, rfl, Nat.le_of_ble_eq_true rfl, fun q nq => ?_⟩
      refine ⟨q, .str w', rfl, upd_same, fun d nd ned => ?_⟩
      have nd1 : H1 d = none := by
        rw [upd_ne ned] at nd
        exact nd
      refine ⟨rfl, d, [("word", .str w')], upd_same, ?_, nd1, ?_⟩
      · rw [upd_ne ned, upd_same]
      · refine kE w' hw _ d (fun b o e => ?_) upd_same
        have e1 := s01 _ _ e
        have nb : b ≠ d := ne_of_none e1 nd1
        have nq' : b ≠ q := ne_of_none e1 nq
        rw [upd_ne nb, del_ne nq', upd_ne nq', upd_ne nb, upd_ne nq']
        exact e1
    | none =>
      obtain ⟨q1, q2, q3, q4, q5⟩ := wordM_none hw
      refine ⟨_, rfl, rfl, _, rfl, ?_⟩
      refine iteF ?_
      have hp1 : H1 p = some (.ins C dx []) := s1 _ _ hp
      refine ⟨_, rfl, _, rfl, p, C, dx, _, rfl, hp1, R.cl, R.n0, (by show 0 < 1000; decide), ?_⟩
      generalize hq : upd H1 p _ = H2
      obtain ⟨e2, o2⟩ := upd_facts hq
      clear hq
      have sg2 : Same H0 H2 := fun c o e => by
        rw [o2 _ (ne_of_none e hp0)]
        exact s01 _ _ e
      clear s01 o2 s1 s0 hp1 hp
      -- inlets
      refine ⟨_, rfl, ?_⟩
      dsimp only [tNil]
      refine rd_tupleOf sg2 h1 q1 fun H3 G3 t1 s3 sg3 gh3 nn3 i1 => ?_
      have p3 : G3 p = none := nn3 _ _ hp0 e2
      refine ⟨_, rfl, p, C, dx, _, rfl, s3 _ _ e2, R.cl, R.n1, (by show 1 < 1000; decide), ?_⟩
      generalize hq : upd H3 p _ = H4
      obtain ⟨e4, o4⟩ := upd_facts hq
      clear hq
      have sg4 : Same G3 H4 := fun c o e => by
        rw [o4 _ (ne_of_none e p3)]
        exact gh3 _ _ e
      clear o4 gh3 nn3 s3 sg2 e2
      -- outlets
      refine ⟨_, rfl, ?_⟩
      dsimp only [tNil]
      refine rd_tupleOf sg4 (h2.same sg3) q2 fun H5 G5 t2 s5 sg5 gh5 nn5 i2 => ?_
      have p5 : G5 p = none := nn5 _ _ p3 e4
      refine ⟨_, rfl, p, C, dx, _, rfl, s5 _ _ e4, R.cl, R.n2, (by show 2 < 1000; decide), ?_⟩
      generalize hq : upd H5 p _ = H6
      obtain ⟨e6, o6⟩ := upd_facts hq
      clear hq
      have sg6 : Same G5 H6 := fun c o e => by
        rw [o6 _ (ne_of_none e p5)]
        exact gh5 _ _ e
      clear o6 gh5 nn5 s5 sg4 e4
      have i1 := i1.same sg5
      have sg3 := sg3.trans sg5
      clear sg5
      -- stations
      refine ⟨_, rfl, ?_⟩
      dsimp only [tNil]
      refine rd_tupleOf sg6 (h3.same sg3) q3 fun H7 G7 t3 s7 sg7 gh7 nn7 i3 => ?_
      have p7 : G7 p = none := nn7 _ _ p5 e6
      refine ⟨_, rfl, p, C, dx, _, rfl, s7 _ _ e6, R.cl, R.n3, (by show 3 < 1000; decide), ?_⟩
      generalize hq : upd H7 p _ = H8
      obtain ⟨e8, o8⟩ := upd_facts hq
      clear hq
      have sg8 : Same G7 H8 := fun c o e => by
        rw [o8 _ (ne_of_none e p7)]
        exact gh7 _ _ e
      clear o8 gh7 nn7 s7 sg6 e6
      have i1 := i1.same sg7
      have i2 := i2.same sg7
      have sg3 := sg3.trans sg7
      clear sg7
      -- links
      refine ⟨_, rfl, ?_⟩
      dsimp only [tNil]
      refine rd_tupleOf sg8 (h4.same sg3) q4 fun H9 G9 t4 s9 sg9 gh9 nn9 i4 => ?_
      have p9 : G9 p = none := nn9 _ _ p7 e8
      refine ⟨_, rfl, p, C, dx, _, rfl, s9 _ _ e8, R.cl, R.n4, (by show 4 < 1000; decide), ?_⟩
      generalize hq : upd H9 p _ = H10
      obtain ⟨e10, o10⟩ := upd_facts hq
      clear hq
      have sg10 : Same G9 H10 := fun c o e => by
        rw [o10 _ (ne_of_none e p9)]
        exact gh9 _ _ e
      clear o10 gh9 nn9 s9 sg8 e8
      have i1 := i1.same sg9
      have i2 := i2.same sg9
      have i3 := i3.same sg9
      have sg3 := sg3.trans sg9
      clear sg9
      -- calls
      refine ⟨_, rfl, ?_⟩
      dsimp only [tNil]
      refine rd_tupleOf sg10 (h5.same sg3) q5 fun H11 G11 t5 s11 sg11 gh11 nn11 i5 => ?_
      have p11 : G11 p = none := nn11 _ _ p9 e10
      refine ⟨_, rfl, p, C, dx, _, rfl, s11 _ _ e10, R.cl, R.n5, (by show 5 < 1000; decide), ?_⟩
      generalize hq : upd H11 p _ = H12
      obtain ⟨e12, o12⟩ := upd_facts hq
      clear hq
      have sg12 : Same G11 H12 := fun c o e => by
        rw [o12 _ (ne_of_none e p11)]
        exact gh11 _ _ e
      have sg3 := sg3.trans sg11
      exact kQ hw H12 (sg3.trans sg12) ⟨dx, t1, t2, t3, t4, t5, e12, (i1.same sg11).same sg12, (i2.same sg11).same sg12, (i3.same sg11).same sg12, (i4.same sg11).same sg12, i5.same sg12⟩
end
end My

namespace My
open PySem PySem.Spec PyProof.Rows L2
local macro_rules | `(tactic| walk_at "side") => `(tactic| first | (dsimp only; omega) | exact ⟨by omega, by omega⟩ | exact Or.inl ⟨by omega, by omega⟩ | exact Or.inr ⟨by omega, by omega⟩ | decide)
local macro_rules | `(tactic| walk_at "sq") => `(tactic| first | assumption | exact SqL.of (by assumption) | exact SqT.of (by assumption) | (refine L2.Same.seq (by assumption) ?_; walk_at "sq") | (refine L2.Same.seqT (by assumption) ?_; walk_at "sq") | exact Or.inl (by walk_at "sq") | exact Or.inr (by walk_at "sq"))
local macro_rules | `(tactic| walk_at "1") => `(tactic| first
  | refine ⟨_, rfl, iteT ?_⟩
  | refine ⟨_, rfl, iteF ?_⟩
  | refine ⟨_, rfl, ?_⟩
  | refine ⟨_, _, rfl, rfl, (by walk_at "side"), ?_⟩
  | refine ⟨_, _, rfl, rfl, ?_⟩
  | refine ⟨_, _, _, _, true, rfl, .ty _, .base (.int _), kit_ty (a := "int") (by decide +kernel), ?_⟩
  | refine ⟨_, _, _, _, false, rfl, .ty _, .base (.int _), kit_ty (a := "int") (by decide +kernel), ?_⟩
  | refine ⟨_, _, rfl, (by walk_at "sq"), ?_⟩
  | refine ⟨_, _, _, _, rfl, rfl, (by walk_at "sq"), (by first | rfl | assumption), ?_⟩
  | refine Or.inl ⟨_, _, _, _, rfl, rfl, (by walk_at "sq"), (by first | rfl | assumption), ?_⟩
  | refine Or.inr (Or.inl ⟨_, _, _, _, rfl, rfl, (by walk_at "sq"), (by first | rfl | assumption), ?_⟩)
  | refine ⟨_, _, rfl, Or.inl ⟨(by walk_at "sq"), ?_⟩⟩
  | refine ⟨rfl, ?_⟩
  | refine iteT ?_
  | refine iteF ?_
  | refine ⟨_, _, _, _, _, rfl, (by assumption), (by assumption), (by assumption), (by assumption), ?_⟩
  | refine Or.inl ⟨_, rfl, ?_⟩
  | refine Or.inr ⟨_, rfl, ?_⟩
  | refine ⟨_, _, rfl, (by walk_at "side"), ?_⟩
  | refine ⟨_, _, rfl, ?_⟩)
local macro_rules | `(tactic| walk_at "fld") => `(tactic| skip)
local macro_rules | `(tactic| walk_at "s") => `(tactic| repeat walk_at "1")
local macro_rules | `(tactic| walk_at "size") => `(tactic| first | exact Nat.le_of_ble_eq_true rfl | (simp only [List.length_map, List.length_append, List.length_cons, List.length_nil]; omega))
local macro_rules | `(tactic| walk_at "new") => `(tactic| (first | refine ⟨(by walk_at "size"), fun p hp => ?_⟩ | refine fun p hp => ?_); (generalize hq : upd _ p _ = H1); (obtain ⟨s, e⟩ := new_facts hp hq); clear hq)
section
variable {X : Cx} {CX : CXT} {k : Nat} {f C : Addr} {fd : FuncData} {ps : List Str} {sp : Sp} {E : L2.St → XK} {x : Str} {p pos : Pos} {e : Expr} {es : List Expr} {t : TA} {ds : List Value} {dvs : List V}
/-- an object is made, and what its __init__ lets out is told with the slots -/
def tMakeS (C : Addr) (sp : Sp) (dvs : List V) (E : L2.St → XK) (t : TA) : TE := fun σ H Q => t σ H fun vs H1 => ∀ x dx, H1 x = none → H1 dx = none → dx ≠ x →
  sp (.ref x :: (vs ++ dvs)) (upd (upd H1 dx (.own x)) x (.ins C dx [])) (fun v H2 => v = .non ∧ Q (.ref x) H2) (E σ)
theorem pe_makeS (M : Mk X.K C f) (F : FnOk X.prog X.w X.K X.mg X.base CX k f fd ps sp) (hr : Room (k + 1) X.A) (isGlob : Gl X x) (stands : X.mg x = some (.ref C)) (hb : Binds X.K fd ps ds) (hd : Vals dvs ds) (hx : ∀ σ, PassesAt CX X σ (E σ))
    (ha : PA X (e :: es) t) (notDebug : (x == ("__debug__" : Str)) = false := by decide) (first1 : starEach (e :: es) X.env = (false, eval e X.env) :: starEach es X.env := by rfl) (noStar : (backTo pos (starEach es X.env)).any (·.1) = false := by rfl) :
    PE X (.Call (.Name x p) (e :: es) [] pos) (tMakeS C sp dvs E t) := by
  refine ⟨fun pins s σ H Q I red => ?_⟩
  refine wpAny_Call_Name_kw (ld_glob I isGlob stands ?_ notDebug)
  refine PySem.W.callWith_K (h₀ := X.base) I.ok.mod.kin M.kp (thn (ha.run pos pins s σ H _ I red) fun us s1 ⟨vs, H1, J1, r, q⟩ => ⟨J1.kIn, ?_⟩) first1 noStar
  have hq := q (s1.heap.objs.size + 1) s1.heap.objs.size (J1.hok.fresh (Nat.le_succ _)) (J1.hok.fresh (Nat.le_refl _)) (Nat.ne_of_lt (Nat.lt_succ_self _))
  have J2 := Inv.made (C := C) J1
  have r2 : Vals (V.ref (s1.heap.objs.size + 1) :: (vs ++ dvs)) (Value.ref (s1.heap.objs.size + 1) :: (us ++ ds)) := .cons rfl (r.append hd)
  have hl : (Value.ref (s1.heap.objs.size + 1) :: us ++ ds).length = ps.length := by
    have e := r2.length
    rw [F.len _ _ _ _ hq] at e
    exact e.symm
  refine wpAny_call (make_map (f := f) J1.kIn M.makes M.init (beq_iff_eq.mp M.fn) (codeAny_mono (F.run _ X.stack _ _ ⟨Value.ref (s1.heap.objs.size + 1) :: us, []⟩ (Value.ref (s1.heap.objs.size + 1) :: (us ++ ds)) _ _ (E σ) (hr.make C us [])
    (J2.env0.make C us []) (hb _ (Value.ref (s1.heap.objs.size + 1) :: us) J2.kIn hl) r2 hq) fun r s' ends => ?_))
  cases r with
  | error e => exact hx σ pins _ _ e s' J2 ends
  | ok fl =>
    cases fl with
    | ret u =>
      obtain ⟨v, K3, J3, rv, ev, rest⟩ := J2.after ends
      subst ev
      exact ⟨rv, ⟨V.ref (s1.heap.objs.size + 1), K3, J3, rfl, rest⟩⟩
    | next => exact ends.elim
    | brk => exact ends.elim
    | cont => exact ends.elim
end
/-- isinstance of the caught error, which has a dict of its own -/
def rIsD (K : PySem.W.Frag) (cls : Value) (d : Option Addr) (a : Addr) : List V → Hp → VK → Prop := fun xs H Q => ∃ (D dd : Addr) (fs : List (Str × V)) (c : V) (cv : Value) (b : Bool), cls = .ref D ∧ d = some dd ∧ ExcC K D ∧ H dd = some (.xd fs) ∧
  xs = [.ref a, c] ∧ ClsV c cv ∧ PySem.W.kitOne K (.ref D) cv = some b ∧ Q (.bl b) H
def rIsDT (K : PySem.W.Frag) (cls : Value) (d : Option Addr) (a : Addr) : List V → Hp → VK → Prop := fun xs H Q => ∃ (D dd tp : Addr) (fs : List (Str × V)) (cs : List V) (us : List Value) (b : Bool), cls = .ref D ∧ d = some dd ∧ ExcC K D ∧ H dd = some (.xd fs) ∧
  xs = [.ref a, .ref tp] ∧ H tp = some (.tup cs) ∧ Paired ClsV cs us ∧ PySem.W.kitAny K (.ref D) us = some b ∧ Q (.bl b) H
theorem instD {X : Cx} {a D dd : Addr} {oe : Obj} {pn : List (Addr × Obj)} {pins : List (Addr × Obj)} {σ : L2.St} {H : Hp} {s : Shared} {fs : List (Str × V)} (I : Inv (X.suite a ((a, oe) :: pn)) pins σ H s) (hz : Zc (.ref D) (some dd) oe) (hf : ∃ vs, oe.data = .fields vs) (ed : H dd = some (.xd fs)) :
    ∃ od, PySem.W.InstAt s.heap a oe D (some od) := by
  obtain ⟨ha, _⟩ := I.pin (a, oe) (List.mem_append.mpr (.inl List.mem_cons_self))
  obtain ⟨vs, hd⟩ := hf
  have hx : ObjOk X.prog X.w H s.heap dd (.xd fs) := I.hok dd _ ed
  obtain ⟨mA, hns, hr⟩ := hx
  obtain ⟨od, ho, hl⟩ := lookIn_ns hns
  exact ⟨od, ha, hz.1, by unfold PySem.W.notCls; rw [hd] <;> rfl, by rw [hz.2]; exact ho⟩
theorem hasCls {K : PySem.W.Frag} {D : Addr} (h : PySem.W.hasDictIn K D = true) : (PySem.W.clsIn K D).isSome = true := by
  obtain ⟨cd, hc, _⟩ := PySem.W.any_some h
  rw [hc]
  rfl
theorem call_isD {X : Cx} {a : Addr} {oe : Obj} {cls : Value} {d : Option Addr} {pn : List (Addr × Obj)} (hz : Zc cls d oe) (hf : ∃ vs, oe.data = .fields vs) : CallR (X.suite a ((a, oe) :: pn)) (.builtin "isinstance") (rIsD X.K cls d a) := by
  intro pins s σ H vals us Q I r red
  obtain ⟨D, dd, fs, c, cv, b, rfl, rfl, C, ed, rfl, hcv, e, q⟩ := red
  obtain ⟨ua, ub, rfl, ra, rb⟩ := vals2 r
  have e2 := hcv.eq rb
  subst e2
  obtain rfl : ua = Value.ref a := ra
  obtain ⟨od, J⟩ := instD I hz hf ed
  exact PySem.W.kia_one (PySem.W.kitx_exc (hasCls C.hd) C.hg C.hk C.hs C.ha C.hn C.ht C.hm) I.kIn J e (fun z => nomatch z) fun tk => ⟨.bl b, H, I.kept (t' := tk) fun _ _ z => z, rfl, q⟩
theorem call_isDT {X : Cx} {a : Addr} {oe : Obj} {cls : Value} {d : Option Addr} {pn : List (Addr × Obj)} (hz : Zc cls d oe) (hf : ∃ vs, oe.data = .fields vs) : CallR (X.suite a ((a, oe) :: pn)) (.builtin "isinstance") (rIsDT X.K cls d a) := by
  intro pins s σ H vals us Q I r red
  obtain ⟨D, dd, tp, fs, cs, ws, b, rfl, rfl, C, ed, rfl, hT, k, e, q⟩ := red
  obtain ⟨ua, ub, rfl, ra, rb⟩ := vals2 r
  cases (show ub = Value.ref tp from rb)
  obtain rfl : ua = Value.ref a := ra
  obtain ⟨od, J⟩ := instD I hz hf ed
  obtain ⟨_, things, rv, o, h1, h2, n, h3⟩ := (show ObjOk X.prog X.w H s.heap tp (.tup cs) from I.hok tp _ hT)
  have e3 := ClsV.all k rv
  subst e3
  obtain ⟨oc, od', dt, sl⟩ := o
  simp only at h2 h3
  subst h2 h3
  exact PySem.W.kia_tup (PySem.W.kitx_exc (hasCls C.hd) C.hg C.hk C.hs C.ha C.hn C.ht C.hm) I.kIn J h1 e (fun z => nomatch z) fun tk => ⟨.bl b, H, I.kept (t' := tk) fun _ _ z => z, rfl, q⟩
/-- the classes of errors -/
structure HeardM (K : PySem.W.Frag) (mg : Str → Option Value) (D W M : Addr) : Prop where
  X : ExcC K D
  nw : PySem.W.findIn K (.ref D) "word" = some none
  te : PySem.W.exmOne K (.ref D) (.ref D) = some true
  gD : mg "InvalidModule" = some (.ref D)
  gW : mg "WaitError" = some (.ref W)
  gM : mg "InvalidHouse" = some (.ref M)
  kW : PySem.W.kitOne K (.ref D) (.ref W) = some true
  kM : PySem.W.kitOne K (.ref D) (.ref M) = some false
structure ModMk (P : Program) (w : World) (K : PySem.W.Frag) (mg : Str → Option Value) (base : Heap) (C D : Addr) : Prop where
  ex : ∃ f fd, FnOk P w K mg base (L2.CX P w) 6 f fd ["self", "name", "inlets", "outlets", "stations", "links", "calls"] (spInitM C D) ∧ mg "Module" = some (.ref C) ∧ Mk K C f ∧ Binds K fd ["self", "name", "inlets", "outlets", "stations", "links", "calls"] []
/-- what is heard of it -/
def hw : Option Str → Str
  | none => "let"
  | some w => w
section
variable {P : Program} {w : World} {K : PySem.W.Frag} {mg : Str → Option Value} {base : Heap} {C D W M : Addr}
abbrev s_law_heard : Stmt := topS 47
theorem sc_law_heard : FnScope ["some", "found", "e"] ["some"] (defScope s_law_heard) := ⟨rfl, rfl, rfl, by decide +kernel, rfl, by decide +kernel, by decide +kernel⟩
def spHeard : Sp := fun vs H Q _ => ∃ (a : Addr) (v0 v1 v2 v3 v4 v5 : V) (d0 d1 d2 d3 d4 d5 : PyData), vs = [.ref a] ∧ H a = some (.lst [v0, v1, v2, v3, v4, v5]) ∧ Dv H v0 d0 ∧ Dv H v1 d1 ∧ Dv H v2 d2 ∧ Dv H v3 d3 ∧ Dv H v4 d4 ∧ Dv H v5 d5 ∧ (itemsD d5).all labOk = true ∧
  ∀ H', Same H H' → Q (.str (hw (wordM d0 d1 d2 d3 d4 d5))) H'
set_option maxHeartbeats 8000000 in
theorem ok_heard (F : Df K mg "_law_heard" s_law_heard ["some"]) (T : Txt mg) (Z : HeardM K mg D W M) (R : ModMk P w K mg base C D) : Own P w K mg base "_law_heard" 8 ["some"] spHeard := by
  obtain ⟨fR, fdR, FR, mR, MR, bR⟩ := R.ex
  refine F.own sc_law_heard (fun vs H Q E h => ?_) (fun fa cdv A outer s H vs Q E hr h => ?_)
  · obtain ⟨_, _, _, _, _, _, _, _, _, _, _, _, _, rfl, _⟩ := h
    rfl
  · obtain ⟨a, v0, v1, v2, v3, v4, v5, d0, d1, d2, d3, d4, d5, rfl, ha, h0, h1, h2, h3, h4, h5, hl, k⟩ := h
    refine ⟨_, (pss_cons (ps_set (i := 1) sc_law_heard.nd rfl (Or.inl rfl) pe_str)
      (pss_cons (ps_try_as (i := 2) (tb := fun W' => tDrop (tMakeS C (spInitM C D) [] (WE W') (tCons (tOp (rIxL K) (tVar 0) (tC (.int 0))) (tCons (tOp (rIxL K) (tVar 0) (tC (.int 1))) (tCons (tOp (rIxL K) (tVar 0) (tC (.int 2))) (tCons (tOp (rIxL K) (tVar 0) (tC (.int 3))) (tCons (tOp (rIxL K) (tVar 0) (tC (.int 4))) (tCons (tOp (rIxL K) (tVar 0) (tC (.int 5))) tNil)))))))) (ts := _) (Wout := fun _ _ _ _ => False) rfl rfl sc_law_heard.nd rfl rfl ⟨rfl, by decide, Or.inl Z.gD⟩ takes0
          (fun W' pn xe tk _ => pss_one (ps_expr (by exact (pe_makeS MR FR (hr.mono (by decide)) rfl mR bR .nil (fun σ => passAt tk σ) (by exact (pa_cons (pe_ix ix_list (pv 0) pe_int (fun _ _ => rfl)) (pa_cons (pe_ix ix_list (pv 0) pe_int (fun _ _ => rfl)) (pa_cons (pe_ix ix_list (pv 0) pe_int (fun _ _ => rfl)) (pa_cons (pe_ix ix_list (pv 0) pe_int (fun _ _ => rfl)) (pa_cons (pe_ix ix_list (pv 0) pe_int (fun _ _ => rfl)) (pa_cons (pe_ix ix_list (pv 0) pe_int (fun _ _ => rfl)) pa_nil)))))))))))
          (fun a oe cls d pn hz hf => pss_one (ps_set (i := 1) sc_law_heard.nd rfl (Or.inl rfl) (by exact (pe_ifExp
            (PW.pt (pw_and (pt_val (pe_callB (call_isD hz hf) (by rfl) T.isinstance (by decide +kernel) (pa_cons (pv 2) (pa_cons (pe_glob (v := .ref W) (by rfl) Z.gW rfl) pa_nil))))
              (pw_and1 (pt_not (pt_val (pe_callB (call_isD hz hf) (by rfl) T.isinstance (by decide +kernel) (pa_cons (pv 2) (pa_cons (pe_glob (v := .ref M) (by rfl) Z.gM rfl) pa_nil))))))))
            (pe_xf ⟨Z.X.hg, Z.X.hk, Z.X.hs, Z.X.hd⟩ Z.nw hz hf (pv 2)) pe_str)))))
      (pss_one (ps_ret (pv 1))))), ?_⟩
    have ix : ∀ {n : Nat} {v : V}, [v0, v1, v2, v3, v4, v5][n]? = some v → atI [v0, v1, v2, v3, v4, v5] (n : Int) = some v := fun h => atI_nat h
    refine ⟨_, rfl, a, _, 0, v0, rfl, rfl, SqL.of ha, ix (n := 0) rfl, ?_⟩
    refine ⟨_, rfl, a, _, 1, v1, rfl, rfl, SqL.of ha, ix (n := 1) rfl, ?_⟩
    refine ⟨_, rfl, a, _, 2, v2, rfl, rfl, SqL.of ha, ix (n := 2) rfl, ?_⟩
    refine ⟨_, rfl, a, _, 3, v3, rfl, rfl, SqL.of ha, ix (n := 3) rfl, ?_⟩
    refine ⟨_, rfl, a, _, 4, v4, rfl, rfl, SqL.of ha, ix (n := 4) rfl, ?_⟩
    refine ⟨_, rfl, a, _, 5, v5, rfl, rfl, SqL.of ha, ix (n := 5) rfl, fun x dx nx ndx nex => ?_⟩
    have sx : Same H (upd (upd H dx (.own x)) x (.ins C dx [])) := fun b o e => by
      rw [upd_ne (ne_of_none e nx), upd_ne (ne_of_none e ndx)]
      exact e
    refine ⟨H, x, dx, v0, v1, v2, v3, v4, v5, d0, d1, d2, d3, d4, d5, rfl, nx, sx, upd_same, h0, h1, h2, h3, h4, h5, hl, fun w' ew H' d s' e' => ?_, fun ew H' s' _ => ⟨rfl, ?_⟩⟩
    · refine ⟨true, Z.te, fun _ a0 _ => ?_, fun z => nomatch z⟩
      refine ⟨_, rfl, ?_⟩
      refine ⟨D, d, _, _, _, true, rfl, rfl, Z.X, e', rfl, .own W, Z.kW, ?_⟩
      refine ⟨_, rfl, iteT ?_⟩
      refine ⟨_, rfl, ?_⟩
      refine ⟨D, d, _, _, _, false, rfl, rfl, Z.X, e', rfl, .own M, Z.kM, ?_⟩
      refine ⟨_, rfl, iteT ?_⟩
      refine ⟨_, rfl, ?_⟩
      refine ⟨rfl, rfl, d, _, _, rfl, e', rfl, ?_⟩
      refine ⟨_, rfl, ?_⟩
      have k' := k H' s'
      rw [ew] at k'
      exact k'
    · rw [ew] at k
      exact ⟨_, rfl, k _ s'⟩
end
end My

/-! xs != [] -/
namespace My
open PySem PySem.Spec PyProof.Rows L2
def rNeN (K : PySem.W.Frag) : R2 := fun x y H Q => ∃ p q xs, x = .ref p ∧ y = .ref q ∧ SqL K H p xs ∧ SqL K H q [] ∧ Q (.bl (!xs.isEmpty)) H
theorem op_neN {X : Cx} (hu : X.A.units + 64 < cLine) : OpR X (compareOp .NotEq) (rNeN X.K) := by
  intro pins s σ H x y v u Q I rx ry h
  obtain ⟨p, q, xs, rfl, rfl, h1, h2, k⟩ := h
  cases rx
  cases ry
  obtain ⟨its, r, pl, _⟩ := I.list h1
  obtain ⟨its2, r2, pl2, _⟩ := I.list h2
  cases r2
  have ln := r.length
  refine PySem.W.cmp_ofNotEq ?_
  cases xs with
  | nil =>
    cases r
    exact SeqAt.RcNeAt.lists (A := X.A) pl.isList pl2.isList rfl (by omega) (e := fun _ => true) (fun j h => absurd h (by simp)) X.prog X.w _ _ ⟨.bl false, H, I, rfl, k⟩
  | cons a xs =>
    exact SeqAt.RcNeAt.lists_lengths (A := X.A) pl.isList pl2.isList (by
      rw [List.size_toArray, ← ln]
      simp) (by omega) X.prog X.w _ _ ⟨.bl true, H, I, rfl, k⟩
def rEqN (K : PySem.W.Frag) : R2 := fun x y H Q => ∃ p q xs, x = .ref p ∧ y = .ref q ∧ SqL K H p xs ∧ SqL K H q [] ∧ Q (.bl xs.isEmpty) H
theorem op_eqN {X : Cx} (hu : X.A.units + 64 < cLine) : OpR X (compareOp .Eq) (rEqN X.K) := by
  intro pins s σ H x y v u Q I rx ry h
  obtain ⟨p, q, xs, rfl, rfl, h1, h2, k⟩ := h
  cases rx
  cases ry
  obtain ⟨its, r, pl, _⟩ := I.list h1
  obtain ⟨its2, r2, pl2, _⟩ := I.list h2
  cases r2
  have ln := r.length
  refine PySem.W.cmp_ofEq ?_
  cases xs with
  | nil =>
    cases r
    exact SeqAt.RcAt.lists (A := X.A) pl.isList pl2.isList rfl (by omega) (e := fun _ => true) (fun j h => absurd h (by simp)) X.prog X.w _ _ ⟨.bl true, H, I, rfl, k⟩
  | cons a xs =>
    exact SeqAt.RcAt.lists_lengths (A := X.A) pl.isList pl2.isList (by
      rw [List.size_toArray, ← ln]
      simp) (by omega) X.prog X.w _ _ ⟨.bl false, H, I, rfl, k⟩
end My

namespace My
open PySem PySem.Spec PyProof.Rows L2
local macro_rules | `(tactic| walk_at "side") => `(tactic| first | (dsimp only; omega) | exact ⟨by omega, by omega⟩ | exact Or.inl ⟨by omega, by omega⟩ | exact Or.inr ⟨by omega, by omega⟩ | decide)
local macro_rules | `(tactic| walk_at "sq") => `(tactic| first | assumption | exact SqL.of (by assumption) | exact SqT.of (by assumption) | (refine L2.Same.seq (by assumption) ?_; walk_at "sq") | (refine L2.Same.seqT (by assumption) ?_; walk_at "sq") | exact Or.inl (by walk_at "sq") | exact Or.inr (by walk_at "sq"))
local macro_rules | `(tactic| walk_at "1") => `(tactic| first
  | refine ⟨_, rfl, iteT ?_⟩
  | refine ⟨_, rfl, iteF ?_⟩
  | refine ⟨_, rfl, ?_⟩
  | refine ⟨_, _, rfl, rfl, (by walk_at "side"), ?_⟩
  | refine ⟨_, _, rfl, rfl, ?_⟩
  | refine ⟨_, _, _, _, true, rfl, .ty _, .base (.int _), kit_ty (a := "int") (by decide +kernel), ?_⟩
  | refine ⟨_, _, _, _, false, rfl, .ty _, .base (.int _), kit_ty (a := "int") (by decide +kernel), ?_⟩
  | refine ⟨_, _, rfl, (by walk_at "sq"), ?_⟩
  | refine ⟨_, _, _, _, rfl, rfl, (by walk_at "sq"), (by first | rfl | assumption), ?_⟩
  | refine Or.inl ⟨_, _, _, _, rfl, rfl, (by walk_at "sq"), (by first | rfl | assumption), ?_⟩
  | refine Or.inr (Or.inl ⟨_, _, _, _, rfl, rfl, (by walk_at "sq"), (by first | rfl | assumption), ?_⟩)
  | refine ⟨_, _, rfl, Or.inl ⟨(by walk_at "sq"), ?_⟩⟩
  | refine ⟨rfl, ?_⟩
  | refine iteT ?_
  | refine iteF ?_
  | refine ⟨_, _, _, _, _, rfl, (by assumption), (by assumption), (by assumption), (by assumption), ?_⟩
  | refine Or.inl ⟨_, rfl, ?_⟩
  | refine Or.inr ⟨_, rfl, ?_⟩
  | refine ⟨_, _, rfl, (by walk_at "side"), ?_⟩
  | refine ⟨_, _, rfl, ?_⟩)
local macro_rules | `(tactic| walk_at "fld") => `(tactic| skip)
local macro_rules | `(tactic| walk_at "s") => `(tactic| repeat walk_at "1")
local macro_rules | `(tactic| walk_at "size") => `(tactic| first | exact Nat.le_of_ble_eq_true rfl | (simp only [List.length_map, List.length_append, List.length_cons, List.length_nil]; omega))
local macro_rules | `(tactic| walk_at "new") => `(tactic| (first | refine ⟨(by walk_at "size"), fun p hp => ?_⟩ | refine fun p hp => ?_); (generalize hq : upd _ p _ = H1); (obtain ⟨s, e⟩ := new_facts hp hq); clear hq)
theorem cut_from {xs : List V} (t : Nat) : cutV xs (some (t : Int)) none = xs.drop t := by
  unfold cutV
  rw [HT.sIx_nat, HT.sIx_none]
  by_cases h : t ≤ xs.length
  · rw [Nat.min_eq_left h]
    exact List.take_of_length_le (by rw [List.length_drop]; omega)
  · rw [Nat.min_eq_right (by omega), List.drop_of_length_le (Nat.le_refl _), List.drop_of_length_le (by omega), List.take_nil]
theorem cut_to {xs : List V} (t : Nat) : cutV xs none (some (t : Int)) = xs.take t := by
  unfold cutV
  rw [HT.sIx_nat, HT.sIx_none, List.drop_zero, Nat.sub_zero]
  by_cases h : t ≤ xs.length
  · rw [Nat.min_eq_left h]
  · rw [Nat.min_eq_right (by omega), List.take_length, List.take_of_length_le (by omega)]
theorem cut_mid {xs : List V} {b t : Nat} (h : t ≤ xs.length) (hb : b ≤ t) : cutV xs (some (b : Int)) (some (t : Int)) = (xs.drop b).take (t - b) := by
  unfold cutV
  rw [HT.sIx_nat, HT.sIx_nat, Nat.min_eq_left h, Nat.min_eq_left (Nat.le_trans hb h)]
/-- from (G0, H0) to (G, H): what stands still grows from G0 to G; draws are taken from the box b -/
structure Go (b : Addr) (G0 H0 G H : Hp) : Prop where
  gs : Same G0 G
  gh : Same G H
  bx : Bx b H0 H
  box : BoxAt H b
  gb : G b = none
  new : ∀ c o, H0 c = some o → G0 c = none → G c = none
section
variable {b p c : Addr} {G0 H0 G H G1 H1 G2 H2 H' : Hp} {o : HO}
theorem Go.refl (gh : Same G H) (box : BoxAt H b) (gb : G b = none) : Go b G H G H := ⟨Same.refl _, gh, Bx.of (Same.refl _), box, gb, fun _ _ _ n => n⟩
theorem Go.trans (x : Go b G0 H0 G1 H1) (y : Go b G1 H1 G2 H2) : Go b G0 H0 G2 H2 := ⟨x.gs.trans y.gs, y.gh, x.bx.trans y.bx, y.box, y.gb, fun c o e n => by
  by_cases q : c = b
  · rw [q]
    exact y.gb
  · exact y.new c o (x.bx c o q e) (x.new c o e n)⟩
theorem Go.take (x : Go b G0 H0 G H) (s : Bx b H H') (box : BoxAt H' b) : Go b G0 H0 G H' := ⟨x.gs, fun c o e => s c o (fun q => by
  rw [q, x.gb] at e
  cases e) (x.gh c o e), x.bx.trans s, box, x.gb, x.new⟩
theorem Go.same (x : Go b G0 H0 G H) (s : Same H H') : Go b G0 H0 G H' := x.take (Bx.of s) (x.box.same s)
theorem Bx.back (x : Bx b H0 H) (box : BoxAt H b) (n : H p = none) : H0 p = none := by
  cases q : H0 p with
  | none => rfl
  | some o =>
    by_cases e : p = b
    · obtain ⟨_, _, _, _, e2⟩ := box
      rw [e, e2] at n
      cases n
    · rw [x p o e q] at n
      cases n
theorem Go.free0 (x : Go b G0 H0 G H) (n : H p = none) : H0 p = none := x.bx.back x.box n
theorem Go.freeG (x : Go b G0 H0 G H) (n : H p = none) : G p = none := x.gh.free n
theorem Go.ne (x : Go b G0 H0 G H) (n : H p = none) : p ≠ b := x.box.ne n
theorem same_upd2 (s : Same G H) (n : H p = none) : Same (upd G p o) (upd H p o) := fun c x e => by
  by_cases q : c = p
  · rw [q, upd_same] at e ⊢
    exact e
  · rw [upd_ne q] at e ⊢
    exact s _ _ e
theorem Go.lay (x : Go b G0 H0 G H) (n : H p = none) : Go b G0 H0 (upd G p o) (upd H p o) :=
  ⟨x.gs.trans (same_upd (x.freeG n)), same_upd2 x.gh n, x.bx.trans (Bx.of (same_upd n)), x.box.same (same_upd n), by rw [upd_ne (x.ne n).symm]; exact x.gb, fun c o' e q => by
    rw [upd_ne (ne_of_none e (x.free0 n))]
    exact x.new c o' e q⟩
theorem Go.change (x : Go b G0 H0 G H) (n0 : H0 p = none) (nG : G p = none) (ne : p ≠ b) : Go b G0 H0 G (upd H p o) :=
  ⟨x.gs, fun c o' e => by
    rw [upd_ne (ne_of_none e nG)]
    exact x.gh c o' e, fun c o' n e => by
    rw [upd_ne (ne_of_none e n0)]
    exact x.bx c o' n e, by
    obtain ⟨i, j, k, h0, h1⟩ := x.box
    exact ⟨i, j, k, h0, by rw [upd_ne ne.symm]; exact h1⟩, x.gb, x.new⟩
theorem Go.freeze (x : Go b G0 H0 G H) (n0 : H0 p = none) (e : H p = some o) (nG : G p = none) (ne : p ≠ b) : Go b G0 H0 (upd G p o) H :=
  ⟨x.gs.trans (same_upd nG), fun c o' q => by
    by_cases w : c = p
    · rw [w, upd_same] at q
      cases q
      rw [w]
      exact e
    · rw [upd_ne w] at q
      exact x.gh c o' q, x.bx, x.box, by rw [upd_ne ne.symm]; exact x.gb, fun c o' q w => by
    rw [upd_ne (ne_of_none q n0)]
    exact x.new c o' q w⟩
theorem Go.laid (x : Go b G0 H0 G H) (n : H p = none) (hq : upd H p o = H') : ∃ G', Go b G0 H0 G' H' ∧ Same G G' ∧ Same H H' ∧ G' p = some o ∧ ∀ c, G c = none → c ≠ p → G' c = none := by
  subst hq
  exact ⟨upd G p o, x.lay n, same_upd (x.freeG n), same_upd n, upd_same, fun c h ne => by rw [upd_ne ne]; exact h⟩
end
theorem map_erase : ∀ (l : List Str) (m : Nat), (l.map V.str).eraseIdx m = (l.eraseIdx m).map V.str
  | [], m => rfl
  | x :: l, 0 => rfl
  | x :: l, m + 1 => by
    show V.str x :: (l.map V.str).eraseIdx m = V.str x :: (l.eraseIdx m).map V.str
    rw [map_erase l m]
theorem erase_perm : ∀ (l : List Str) (m : Nat) (h : m < l.length), ([l[m]] ++ l.eraseIdx m).Perm l
  | [], m, h => absurd h (by simp)
  | x :: l, 0, h => List.Perm.refl _
  | x :: l, m + 1, h => by
    have ih := erase_perm l m (by simpa using h)
    exact (List.Perm.swap _ _ _).trans (List.Perm.cons x ih)
theorem seqI {i n : Nat} (h : i < n) : seqIndex? (i : Int) n = some i := by
  have := PySem.seqIndex_of (k := (i : Int)) (n := n) (by omega) (by omega)
  rw [this]
  rfl
def namesAll : List Str := ["a", "b", "in", "out", "at", "cut", "fold", "oven", "press", "done", "link", "use", "zzzzz", "order", "c", "d", "e", "g"]
theorem namesAll_nodup : namesAll.Nodup := by decide
theorem namesAll_name : ∀ x ∈ namesAll, nameS x = true := by decide +kernel
theorem namesAll_ok : ∀ x ∈ namesAll, okS x = true := by decide +kernel
def spMixed : Sp := fun vs H Q _ => ∃ (b a : Addr) (ss : List Str), vs = [.ref b, .ref a] ∧ BoxAt H b ∧ a ≠ b ∧ H a = some (.lst (ss.map V.str)) ∧ ss.length < 1000 ∧
  ∀ (H' : Hp) (p : Addr) (ss' : List Str), ss'.Perm ss → Bx b H H' → BoxAt H' b → H p = none → H' p = some (.lst (ss'.map V.str)) → Q (.ref p) H'
def spNames : Sp := fun vs H Q _ => ∃ (b : Addr) (n : Nat), vs = [.ref b, .int n] ∧ BoxAt H b ∧ n ≤ 18 ∧
  ∀ (H' : Hp) (p : Addr) (ss' : List Str), ss'.Nodup → (∀ x ∈ ss', x ∈ namesAll) → ss'.length = n → Bx b H H' → BoxAt H' b → H p = none → H' p = some (.lst (ss'.map V.str)) → Q (.ref p) H'
section
variable {P : Program} {w : World} {K : PySem.W.Frag} {mg : Str → Option Value} {base : Heap}
abbrev s_law_mixed : Stmt := topS 40
theorem sc_law_mixed : FnScope ["box", "items", "left", "found", "turn"] ["box", "items"] (defScope s_law_mixed) := ⟨rfl, rfl, rfl, by decide +kernel, rfl, by decide +kernel, by decide +kernel⟩
set_option maxHeartbeats 8000000 in
theorem ok_mixed (D : Df K mg "_law_mixed" s_law_mixed ["box", "items"]) (T : Txt mg) (o_law_take : Own P w K mg base "_law_take" 1 ["box", "many"] spTake) : Own P w K mg base "_law_mixed" 2 ["box", "items"] spMixed := by
  refine D.own sc_law_mixed (fun vs H Q E h => ?_) (fun f cdv A outer s H vs Q E hr h => ?_)
  · obtain ⟨_, _, _, rfl, _⟩ := h
    rfl
  · obtain ⟨b, a, ss, rfl, hb, ab, ha, hn, k⟩ := h
    refine ⟨_, (pss_cons (ps_par (i := 2) (j := 3) (by rfl) sc_law_mixed.nd rfl rfl (by decide) rfl rfl (pa_cons (pe_callTy call_list_of (by rfl) T.list (by decide +kernel) (pa_cons (pv 1) pa_nil)) (pa_cons (pe_lst pa_nil) pa_nil)) (by rfl))
  (pss_cons (ps_for PassesOwn.never rfl (pi_range1 (by rfl) T.range (pa_cons (pe_callB call_len_seq (by rfl) T.len PySem.boot_len (pa_cons (pv 2) pa_nil)) pa_nil)) (pg_name (i := 4) sc_law_mixed.nd rfl (Or.inl rfl))
    (pss_one (ps_expr (pe_bm PySem.F.plainAttrs_list PySem.F.slot_list_append PySem.F.type_list_append mt_append (pv 3) (pa_cons (pe_bm PySem.F.plainAttrs_list PySem.F.slot_list_pop PySem.F.type_list_pop mt_popAt (pv 2) (pa_cons (pe_own o_law_take (hr.mono (by decide)) (pa_cons (pv 0) (pa_cons (pe_callB call_len_seq (by rfl) T.len PySem.boot_len (pa_cons (pv 2) pa_nil)) pa_nil))) pa_nil)) pa_nil)))))
  (pss_one (ps_ret (pv 3))))), ?_⟩
    refine ⟨_, rfl, a, _, rfl, Or.inl (SqL.of ha), fun l nl => ?_⟩
    generalize hq : upd H l _ = H1
    obtain ⟨s1, e1⟩ := new_facts nl hq
    clear hq
    refine ⟨Nat.zero_le _, fun p np => ?_⟩
    generalize hq : upd H1 p _ = H2
    obtain ⟨s2, e2⟩ := new_facts np hq
    clear hq
    have e1' := s2 _ _ e1
    have lp : l ≠ p := ne_of_none e1 np
    have lb : l ≠ b := hb.ne nl
    have pb : p ≠ b := (hb.same s1).ne np
    have np0 : H p = none := s1.free np
    have hl : ((ss.map V.str).length : Int) = (ss.length : Int) := by rw [List.length_map]
    refine ⟨_, _, rfl, ?_⟩
    have hnn : (ss.map V.str).length = ss.length := List.length_map ..
    refine ⟨_, rfl, l, _, rfl, Or.inl (SqL.of e1'), _, rfl, by omega, by omega, ?_⟩
    refine for_range (lo := 0) (n := (ss.map V.str).length) (fun i σ' H' => ∃ (ls fs : List Str) (y : Option V), σ' = [some (.ref b), some (.ref a), some (.ref l), some (.ref p), y] ∧ Bx b H H' ∧ BoxAt H' b ∧ H' l = some (.lst (ls.map V.str)) ∧ H' p = some (.lst (fs.map V.str)) ∧ (fs ++ ls).Perm ss ∧ ls.length + i = ss.length) ?_ ?_ ?_
    · exact ⟨ss, [], none, rfl, Bx.of (s1.trans s2), (hb.same s1).same s2, e1', e2, List.Perm.refl _, rfl⟩
    · rintro i σ' H' hi ⟨ls, fs, y, rfl, bx, box, el, ep, pm, ln⟩
      have hi' : i < ss.length := hnn ▸ hi
      have l0 : 0 < ls.length := by omega
      have lm : (ls.map V.str).length = ls.length := List.length_map ..
      refine ⟨_, rfl, Or.inl ⟨rfl, _, SqL.of ep⟩, _, rfl, Or.inl ⟨rfl, _, SqL.of el⟩, _, rfl, _, rfl, l, _, rfl, Or.inl (SqL.of el), b, ls.length, (by show [V.ref b, V.int ((ls.map V.str).length : Nat)] = [V.ref b, V.int (ls.length : Nat)]; rw [lm]), l0, by omega, box, fun H3 m hm s3 b3 => ?_⟩
      have el3 := s3 _ _ lb el
      have ep3 := s3 _ _ pb ep
      have hx : (ls.map V.str)[m]? = some (.str ls[m]) := by rw [List.getElem?_map, List.getElem?_eq_getElem hm]; rfl
      refine ⟨l, _, (m : Int), m, .str ls[m], rfl, rfl, el3, by omega, by omega, (by rw [lm]; exact seqI hm), hx, ?_⟩
      have ep4 : upd H3 l (.lst ((ls.map V.str).eraseIdx m)) p = some (.lst (fs.map V.str)) := by
        rw [upd_ne lp.symm]
        exact ep3
      have lf : fs.length + ls.length = ss.length := by rw [← pm.length_eq, List.length_append]
      refine ⟨p, _, _, rfl, rfl, ep4, (by rw [List.length_map]; exact Nat.lt_of_lt_of_le (by omega : fs.length < 1000) (by decide)), ls.eraseIdx m, fs ++ [ls[m]], _, rfl, ?_, ?_, ?_, ?_, ?_, ?_⟩
      · intro c o n e
        have cl : c ≠ l := ne_of_none e nl
        have cp : c ≠ p := ne_of_none e np0
        rw [upd_ne cp, upd_ne cl]
        exact s3 _ _ n (bx _ _ n e)
      · obtain ⟨x1, x2, x3, x0, eb⟩ := b3
        exact ⟨x1, x2, x3, x0, by rw [upd_ne pb.symm, upd_ne lb.symm]; exact eb⟩
      · rw [upd_ne lp, upd_same, map_erase]
      · rw [upd_same, List.map_append]
        rfl
      · refine List.Perm.trans ?_ pm
        rw [List.append_assoc]
        exact List.Perm.append_left _ (erase_perm _ _ hm)
      · rw [List.length_eraseIdx, if_pos hm]
        omega
    · rintro σ' H' ⟨ls, fs, y, rfl, bx, box, el, ep, pm, ln⟩
      rw [hnn] at ln
      have e0 : ls = [] := List.eq_nil_of_length_eq_zero (by omega)
      subst e0
      rw [List.append_nil] at pm
      exact ⟨_, rfl, k H' p fs pm bx box np0 ep⟩
abbrev s_law_names : Stmt := topS 41
theorem sc_law_names : FnScope ["box", "many", "some"] ["box", "many"] (defScope s_law_names) := ⟨rfl, rfl, rfl, by decide +kernel, rfl, by decide +kernel, by decide +kernel⟩
set_option maxHeartbeats 8000000 in
theorem ok_names (D : Df K mg "_law_names" s_law_names ["box", "many"]) (o_law_mixed : Own P w K mg base "_law_mixed" 2 ["box", "items"] spMixed) : Own P w K mg base "_law_names" 3 ["box", "many"] spNames := by
  refine D.own sc_law_names (fun vs H Q E h => ?_) (fun f cdv A outer s H vs Q E hr h => ?_)
  · obtain ⟨_, _, rfl, _⟩ := h
    rfl
  · obtain ⟨b, n, rfl, hb, hn, k⟩ := h
    refine ⟨_, (pss_cons (ps_set (i := 2) sc_law_names.nd rfl (Or.inl rfl) (pe_lst (pa_cons pe_str (pa_cons pe_str (pa_cons pe_str (pa_cons pe_str (pa_cons pe_str (pa_cons pe_str (pa_cons pe_str (pa_cons pe_str (pa_cons pe_str (pa_cons pe_str (pa_cons pe_str (pa_cons pe_str (pa_cons pe_str (pa_cons pe_str pa_nil))))))))))))))))
  (pss_one (ps_ret (pe_slice sl_list (pe_own o_law_mixed (hr.mono (by decide)) (pa_cons (pv 0) (pa_cons (pe_op op_cat (pv 2) (pe_lst (pa_cons pe_str (pa_cons pe_str (pa_cons pe_str (pa_cons pe_str pa_nil)))))) pa_nil))) po_none (po_some (pv 1)))))), ?_⟩
    refine ⟨Nat.le_of_ble_eq_true rfl, fun p1 n1 => ?_⟩
    generalize hq : upd H p1 _ = H1
    obtain ⟨s1, e1⟩ := new_facts n1 hq
    clear hq
    refine ⟨_, rfl, _, rfl, Nat.le_of_ble_eq_true rfl, fun p2 n2 => ?_⟩
    generalize hq : upd H1 p2 _ = H2
    obtain ⟨s2, e2⟩ := new_facts n2 hq
    clear hq
    refine ⟨p1, p2, _, _, rfl, rfl, s2 _ _ e1, e2, Nat.le_of_ble_eq_true rfl, fun p3 n3 => ?_⟩
    generalize hq : upd H2 p3 _ = H3
    obtain ⟨s3, e3⟩ := new_facts n3 hq
    clear hq
    have b3 : BoxAt H3 b := ((hb.same s1).same s2).same s3
    refine ⟨b, p3, namesAll, rfl, b3, ((hb.same s1).same s2).ne n3, e3, by decide, fun H4 p4 ss pm bx box n4 e4 => ?_⟩
    refine ⟨_, rfl, _, rfl, p4, _, rfl, SqL.of e4, fun p5 n5 => ?_⟩
    generalize hq : upd H4 p5 _ = H5
    obtain ⟨s5, e5⟩ := new_facts n5 hq
    clear hq
    have BX : Bx b H H4 := (Bx.of (s1.trans (s2.trans s3))).trans bx
    rw [cut_to, ← List.map_take] at e5
    refine k H5 p5 (ss.take n) ((List.take_sublist _ _).nodup (pm.nodup_iff.mpr namesAll_nodup)) (fun x hx => pm.mem_iff.mp (List.mem_of_mem_take hx)) ?_ (BX.trans (Bx.of s5)) (box.same s5) (BX.back box n5) e5
    rw [List.length_take, pm.length_eq]
    exact Nat.min_eq_left hn
end
end My

namespace My
open PySem PySem.Spec PyProof.Rows L2
local macro_rules | `(tactic| walk_at "side") => `(tactic| first | (dsimp only; omega) | exact ⟨by omega, by omega⟩ | exact Or.inl ⟨by omega, by omega⟩ | exact Or.inr ⟨by omega, by omega⟩ | decide)
local macro_rules | `(tactic| walk_at "sq") => `(tactic| first | assumption | exact SqL.of (by assumption) | exact SqT.of (by assumption) | (refine L2.Same.seq (by assumption) ?_; walk_at "sq") | (refine L2.Same.seqT (by assumption) ?_; walk_at "sq") | exact Or.inl (by walk_at "sq") | exact Or.inr (by walk_at "sq"))
local macro_rules | `(tactic| walk_at "1") => `(tactic| first
  | refine ⟨_, rfl, iteT ?_⟩
  | refine ⟨_, rfl, iteF ?_⟩
  | refine ⟨_, rfl, ?_⟩
  | refine ⟨_, _, rfl, rfl, (by walk_at "side"), ?_⟩
  | refine ⟨_, _, rfl, rfl, ?_⟩
  | refine ⟨_, _, _, _, true, rfl, .ty _, .base (.int _), kit_ty (a := "int") (by decide +kernel), ?_⟩
  | refine ⟨_, _, _, _, false, rfl, .ty _, .base (.int _), kit_ty (a := "int") (by decide +kernel), ?_⟩
  | refine ⟨_, _, rfl, (by walk_at "sq"), ?_⟩
  | refine ⟨_, _, _, _, rfl, rfl, (by walk_at "sq"), (by first | rfl | assumption), ?_⟩
  | refine Or.inl ⟨_, _, _, _, rfl, rfl, (by walk_at "sq"), (by first | rfl | assumption), ?_⟩
  | refine Or.inr (Or.inl ⟨_, _, _, _, rfl, rfl, (by walk_at "sq"), (by first | rfl | assumption), ?_⟩)
  | refine ⟨_, _, rfl, Or.inl ⟨(by walk_at "sq"), ?_⟩⟩
  | refine ⟨rfl, ?_⟩
  | refine iteT ?_
  | refine iteF ?_
  | refine ⟨_, _, _, _, _, rfl, (by assumption), (by assumption), (by assumption), (by assumption), ?_⟩
  | refine Or.inl ⟨_, rfl, ?_⟩
  | refine Or.inr ⟨_, rfl, ?_⟩
  | refine ⟨_, _, rfl, (by walk_at "side"), ?_⟩
  | refine ⟨_, _, rfl, ?_⟩)
local macro_rules | `(tactic| walk_at "fld") => `(tactic| skip)
local macro_rules | `(tactic| walk_at "s") => `(tactic| repeat walk_at "1")
local macro_rules | `(tactic| walk_at "size") => `(tactic| first | exact Nat.le_of_ble_eq_true rfl | (simp only [List.length_map, List.length_append, List.length_cons, List.length_nil]; omega))
local macro_rules | `(tactic| walk_at "new") => `(tactic| (first | refine ⟨(by walk_at "size"), fun p hp => ?_⟩ | refine fun p hp => ?_); (generalize hq : upd _ p _ = H1); (obtain ⟨s, e⟩ := new_facts hp hq); clear hq)
/-! ## drawn modules, as they are told -/
structure DM where
  name : Str
  inl : List Str
  out : List Str
  sta : List Str
  calls : List (Str × Str)
  links : List (Str × Str × Nat × Nat)
def strL (ss : List Str) : PyData := .list (ss.map PyData.str)
def callD (c : Str × Str) : PyData := .tuple [.str c.1, .str c.2]
def linkD (l : Str × Str × Nat × Nat) : PyData := .tuple [.str l.1, .str l.2.1, .int (l.2.2.1 : Nat), .int (l.2.2.2 : Nat)]
/-- an end within a call -/
def lab (l o : Str) : Str := l ++ "." ++ o
def findM (ms : List DM) (n : Str) : Option DM := ms.find? fun m => decide (m.name = n)
def outOf (ms : List DM) (n : Str) : List Str := match findM ms n with
  | some m => m.out
  | none => []
def inlOf (ms : List DM) (n : Str) : List Str := match findM ms n with
  | some m => m.inl
  | none => []
def begS (ms : List DM) (m : DM) : List Str := m.inl ++ m.sta ++ m.calls.flatMap fun c => (outOf ms c.2).map (lab c.1)
def goeS (ms : List DM) (m : DM) : List Str := m.sta ++ m.out ++ m.calls.flatMap fun c => (inlOf ms c.2).map (lab c.1)
def endsS (m : DM) : List Str := m.inl ++ m.sta ++ m.calls.map (·.1) ++ m.out
def headS (x : Str) : Str := (Txt.split x ".").headD x
def idxS (l : List Str) (x : Str) : Nat := l.findIdx (· == x)
/-- a link leads onward -/
def onward (m : DM) (f t : Str) : Bool := decide (idxS (endsS m) (headS f) < idxS (endsS m) (headS t))
def linkOk (ms : List DM) (m : DM) (l : Str × Str × Nat × Nat) : Prop := l.1 ∈ begS ms m ∧ l.2.1 ∈ goeS ms m ∧ l.2.2.1 ≤ 2 ∧ l.2.2.2 ≤ 9 ∧ (l.2.2.1 = 0 → onward m l.1 l.2.1 = true)
def namesOf (m : DM) : List Str := m.inl ++ (m.out ++ (m.sta ++ m.calls.map (·.1)))
def modNames : List Str := ["first", "mid", "last"]
/-- all but calls and links -/
structure DMBase (m : DM) : Prop where
  nd : (namesOf m).Nodup
  nm : ∀ x ∈ namesOf m, x ∈ namesAll
  name : m.name ∈ modNames
  inl : m.inl.length ≤ 2
  out0 : 1 ≤ m.out.length
  out : m.out.length ≤ 2
  sta0 : 1 ≤ m.sta.length
  sta : m.sta.length ≤ 2
  few : m.calls.length ≤ 2
structure DMOk (ms : List DM) (m : DM) : Prop where
  base : DMBase m
  calls : ∀ c ∈ m.calls, ∃ m', findM ms c.2 = some m'
  links : ∀ l ∈ m.links, linkOk ms m l
  lks : m.links.length ≤ 8
abbrev kS (x : Str) : Key := Sum.inr x
/-- a module's dict, without its links -/
structure ModB (H : Hp) (d : Addr) (m : DM) : Prop where
  ex : ∃ (kvs : List (Key × V)) (a1 a2 a3 a5 : Addr), H d = some (.dK kvs) ∧ valV kvs (kS "name") = some (.str m.name) ∧ valV kvs (kS "inlets") = some (.ref a1) ∧ valV kvs (kS "outlets") = some (.ref a2) ∧
    valV kvs (kS "stations") = some (.ref a3) ∧ valV kvs (kS "calls") = some (.ref a5) ∧ Dv H (.ref a1) (strL m.inl) ∧ Dv H (.ref a2) (strL m.out) ∧ Dv H (.ref a3) (strL m.sta) ∧ Dv H (.ref a5) (.list (m.calls.map callD))
/-- a module's dict -/
structure ModF (H : Hp) (v : V) (m : DM) : Prop where
  ex : ∃ (d : Addr) (kvs : List (Key × V)) (a1 a2 a3 a4 a5 : Addr), v = .ref d ∧ H d = some (.dK kvs) ∧ valV kvs (kS "name") = some (.str m.name) ∧ valV kvs (kS "inlets") = some (.ref a1) ∧ valV kvs (kS "outlets") = some (.ref a2) ∧
    valV kvs (kS "stations") = some (.ref a3) ∧ valV kvs (kS "links") = some (.ref a4) ∧ valV kvs (kS "calls") = some (.ref a5) ∧ Dv H (.ref a1) (strL m.inl) ∧ Dv H (.ref a2) (strL m.out) ∧ Dv H (.ref a3) (strL m.sta) ∧
    Dv H (.ref a4) (.list (m.links.map linkD)) ∧ Dv H (.ref a5) (.list (m.calls.map callD))
theorem ModF.same {H H' : Hp} {v : V} {m : DM} (s : Same H H') (h : ModF H v m) : ModF H' v m := by
  obtain ⟨d, kvs, a1, a2, a3, a4, a5, e, ed, h0, h1, h2, h3, h4, h5, g1, g2, g3, g4, g5⟩ := h
  exact ⟨d, kvs, a1, a2, a3, a4, a5, e, s _ _ ed, h0, h1, h2, h3, h4, h5, g1.same s, g2.same s, g3.same s, g4.same s, g5.same s⟩
theorem ModB.same {H H' : Hp} {d : Addr} {m : DM} (s : Same H H') (h : ModB H d m) : ModB H' d m := by
  obtain ⟨kvs, a1, a2, a3, a5, ed, h0, h1, h2, h3, h5, g1, g2, g3, g5⟩ := h
  exact ⟨kvs, a1, a2, a3, a5, s _ _ ed, h0, h1, h2, h3, h5, g1.same s, g2.same s, g3.same s, g5.same s⟩
theorem ModF.b {H : Hp} {v : V} {m : DM} (h : ModF H v m) : ∃ d, v = .ref d ∧ ModB H d m := by
  obtain ⟨d, kvs, a1, a2, a3, a4, a5, e, ed, h0, h1, h2, h3, h4, h5, g1, g2, g3, g4, g5⟩ := h
  exact ⟨d, e, kvs, a1, a2, a3, a5, ed, h0, h1, h2, h3, h5, g1, g2, g3, g5⟩
/-- modules by their names -/
def Known (H : Hp) (k : Addr) (ms : List DM) : Prop := ∃ kvs, H k = some (.dK kvs) ∧ ∀ n m, findM ms n = some m → ∃ v, valV kvs (kS n) = some v ∧ ModF H v m
theorem Known.same {H H' : Hp} {k : Addr} {ms : List DM} (s : Same H H') (h : Known H k ms) : Known H' k ms := by
  obtain ⟨kvs, e, h⟩ := h
  refine ⟨kvs, s _ _ e, fun n m q => ?_⟩
  obtain ⟨v, e1, e2⟩ := h n m q
  exact ⟨v, e1, e2.same s⟩
theorem dget_s {H : Hp} {a : Addr} {kvs : List (Key × V)} {x : Str} {v : V} (e : H a = some (.dK kvs)) (h : valV kvs (kS x) = some v) : DGet H a (.str x) (some v) := by
  have := DGet.k (k := Sum.inr x) e
  rw [show valV kvs (Sum.inr x) = some v from h] at this
  exact this
/-- a list of texts as it stands -/
theorem Dv.strL {H : Hp} {a : Addr} {ss : List Str} (h : Dv H (.ref a) (strL ss)) : H a = some (.lst (ss.map V.str)) ∧ (∀ x ∈ ss, okS x = true) ∧ ss.length ≤ 2000 := by
  cases h with
  | lst e h sm =>
    rw [List.length_map] at sm
    have go : ∀ {ss : List Str} {xs : List V}, DvAll H xs (ss.map PyData.str) → xs = ss.map V.str ∧ ∀ x ∈ ss, okS x = true := by
      intro ss
      induction ss with
      | nil =>
        intro xs h
        rw [h.inv0]
        exact ⟨rfl, fun x hx => nomatch hx⟩
      | cons y ss ih =>
        intro xs h
        obtain ⟨x, ys, rfl, hx, ht⟩ := h.inv
        obtain ⟨e1, e2⟩ := ih ht
        cases hx with
        | str q => exact ⟨by rw [e1]; rfl, fun z hz => by
            rcases List.mem_cons.mp hz with rfl | hz
            · exact q
            · exact e2 z hz⟩
    obtain ⟨e1, e2⟩ := go h
    rw [e1] at e
    exact ⟨e, e2, sm⟩
theorem Dv.ofStrs {H : Hp} {a : Addr} {ss : List Str} (e : H a = some (.lst (ss.map V.str))) (h : ∀ x ∈ ss, okS x = true) (l : ss.length ≤ 2000) : Dv H (.ref a) (My.strL ss) :=
  .lst e (dvAll_str h) (by rw [List.length_map]; exact l)
/-- a call as it stands -/
theorem Dv.callD {H : Hp} {v : V} {c : Str × Str} (h : Dv H v (callD c)) : ∃ t, v = .ref t ∧ H t = some (.tup [.str c.1, .str c.2]) ∧ okS c.1 = true ∧ okS c.2 = true := by
  cases h with
  | tup e h sm =>
    obtain ⟨x, ys, rfl, hx, h⟩ := h.inv
    obtain ⟨y, zs, rfl, hy, h⟩ := h.inv
    obtain rfl := h.inv0
    cases hx with
    | str q1 =>
      cases hy with
      | str q2 => exact ⟨_, rfl, e, q1, q2⟩
/-! ## texts -/
open TL in
theorem split_plain {x : Str} (h : 46 ∉ tl x) : Txt.split x "." = [x] := by
  have := split_join (y := ".") (s := 46) (S := []) rfl (by decide +kernel) (parts := [x]) (by simp) (fun p hp => by rw [List.mem_singleton.mp hp]; exact h)
  rw [join_eq] at this
  exact this
open TL in
theorem split_lab {l o : Str} (h : 46 ∉ tl l) (g : 46 ∉ tl o) : Txt.split (lab l o) "." = [l, o] := by
  have := split_join (y := ".") (s := 46) (S := []) rfl (by decide +kernel) (parts := [l, o]) (by simp) (fun p hp => by
    rcases List.mem_cons.mp hp with rfl | hp
    · exact h
    · rw [List.mem_singleton.mp hp]; exact g)
  rw [join_eq] at this
  exact this
open TL in
theorem part_lab {l o : Str} (h : 46 ∉ tl l) : Txt.partition (lab l o) "." = (l, ("." : Str), o) := partition_app (y := ".") (s := 46) (S := []) rfl h
open TL in
theorem part_plain {x : Str} (h : 46 ∉ tl x) : Txt.partition x "." = (x, Str.empty, Str.empty) := partition_none (y := ".") (s := 46) (S := []) rfl h
theorem name_point {x : Str} (h : nameS x = true) : 46 ∉ TL.tl x := fun q => by
  have h2 := (Bool.and_eq_true_iff.mp (Bool.and_eq_true_iff.mp h).2).2
  have := List.all_eq_true.mp h2 46 q
  revert this
  decide
theorem okS_name {x : Str} (h : nameS x = true) : okS x = true := by
  obtain ⟨_, h2⟩ := Bool.and_eq_true_iff.mp h
  obtain ⟨h2, h3⟩ := Bool.and_eq_true_iff.mp h2
  refine Bool.and_eq_true_iff.mpr ⟨?_, decide_eq_true (Nat.le_trans (of_decide_eq_true h2) (by decide))⟩
  rw [← Array.all_toList]
  refine List.all_eq_true.mpr fun c hc => ?_
  have := List.all_eq_true.mp h3 c hc
  unfold isLow at this
  obtain ⟨_, q⟩ := Bool.and_eq_true_iff.mp this
  have q := of_decide_eq_true q
  exact decide_eq_true (by omega)
theorem lab_len (l o : Str) : (lab l o).length = l.length + 1 + o.length := by
  have e : TL.tl (lab l o) = TL.tl l ++ TL.tl "." ++ TL.tl o := by
    unfold lab
    rw [TL.tl_append, TL.tl_append]
  rw [TL.len_tl, e, List.length_append, List.length_append, TL.len_tl l, TL.len_tl o]
  rfl
theorem okS_lab {l o : Str} (h : nameS l = true) (g : nameS o = true) : okS (lab l o) = true := by
  have hl : l.length ≤ 5 := of_decide_eq_true (Bool.and_eq_true_iff.mp (Bool.and_eq_true_iff.mp h).2).1
  have gl : o.length ≤ 5 := of_decide_eq_true (Bool.and_eq_true_iff.mp (Bool.and_eq_true_iff.mp g).2).1
  refine Bool.and_eq_true_iff.mpr ⟨?_, decide_eq_true (by rw [lab_len]; omega)⟩
  rw [← Array.all_toList]
  have e : TL.tl (lab l o) = TL.tl l ++ TL.tl "." ++ TL.tl o := by
    unfold lab
    rw [TL.tl_append, TL.tl_append]
  show (TL.tl (lab l o)).all _ = true
  rw [e, List.all_append, List.all_append]
  have h1 := (Bool.and_eq_true_iff.mp (okS_name h)).1
  have h2 := (Bool.and_eq_true_iff.mp (okS_name g)).1
  rw [← Array.all_toList] at h1 h2
  rw [show (TL.tl l).all (· < 0x110000) = true from h1, show (TL.tl o).all (· < 0x110000) = true from h2]
  decide
/-! ## where a text stands -/
theorem idxS_lt {l : List Str} {x : Str} (h : x ∈ l) : idxS l x < l.length := List.findIdx_lt_length_of_exists ⟨x, h, beq_self_eq_true x⟩
theorem idxS_at {l : List Str} {x : Str} (h : x ∈ l) : l[idxS l x]? = some x := by
  have hl := idxS_lt h
  have := List.findIdx_getElem (w := hl)
  rw [List.getElem?_eq_getElem hl]
  exact congrArg some (eq_of_beq this)
theorem idxS_no {l : List Str} {x y : Str} {i : Nat} (h : i < idxS l x) (e : l[i]? = some y) : (y == x) = false := by
  obtain ⟨hi, e'⟩ := List.getElem?_eq_some_iff.mp e
  have := List.not_of_lt_findIdx (p := (· == x)) (xs := l) h
  rw [e'] at this
  exact this
/-! ## ends of links -/
theorem findM_mem {ms : List DM} {n : Str} {m : DM} (h : findM ms n = some m) : m ∈ ms ∧ m.name = n := by
  have h : ms.find? (fun m => decide (m.name = n)) = some m := h
  have := List.find?_some h
  exact ⟨List.mem_of_find?_eq_some h, of_decide_eq_true this⟩
theorem DMBase.nameS {m : DM} (h : DMBase m) {x : Str} (hx : x ∈ namesOf m) : nameS x = true := namesAll_name x (h.nm x hx)
theorem in_inl {m : DM} {x : Str} (h : x ∈ m.inl) : x ∈ namesOf m := List.mem_append_left _ h
theorem in_out {m : DM} {x : Str} (h : x ∈ m.out) : x ∈ namesOf m := List.mem_append_right _ (List.mem_append_left _ h)
theorem in_sta {m : DM} {x : Str} (h : x ∈ m.sta) : x ∈ namesOf m := List.mem_append_right _ (List.mem_append_right _ (List.mem_append_left _ h))
theorem in_lab {m : DM} {c : Str × Str} (h : c ∈ m.calls) : c.1 ∈ namesOf m := List.mem_append_right _ (List.mem_append_right _ (List.mem_append_right _ (List.mem_map_of_mem h)))
/-- how an end looks -/
inductive EndIs (m : DM) (ns : List Str) (x : Str) : Prop where
  | plain (h : x ∈ ns) (n : nameS x = true) : EndIs m ns x
  | call (c : Str × Str) (o : Str) (hc : c ∈ m.calls) (n : nameS c.1 = true) (no : nameS o = true) (e : x = lab c.1 o) : EndIs m ns x
theorem beg_is {ms : List DM} {m : DM} {x : Str} (B : DMBase m) (M : ∀ m' ∈ ms, DMBase m') (h : x ∈ begS ms m) : EndIs m (m.inl ++ m.sta) x := by
  rcases List.mem_append.mp h with h | h
  · refine .plain h ?_
    rcases List.mem_append.mp h with h | h
    · exact B.nameS (in_inl h)
    · exact B.nameS (in_sta h)
  · obtain ⟨c, hc, h⟩ := List.mem_flatMap.mp h
    obtain ⟨o, ho, rfl⟩ := List.mem_map.mp h
    refine .call c o hc (B.nameS (in_lab hc)) ?_ rfl
    unfold outOf at ho
    split at ho
    · rename_i m' e
      exact (M m' (findM_mem e).1).nameS (in_out ho)
    · cases ho
theorem goe_is {ms : List DM} {m : DM} {x : Str} (B : DMBase m) (M : ∀ m' ∈ ms, DMBase m') (h : x ∈ goeS ms m) : EndIs m (m.sta ++ m.out) x := by
  rcases List.mem_append.mp h with h | h
  · refine .plain h ?_
    rcases List.mem_append.mp h with h | h
    · exact B.nameS (in_sta h)
    · exact B.nameS (in_out h)
  · obtain ⟨c, hc, h⟩ := List.mem_flatMap.mp h
    obtain ⟨o, ho, rfl⟩ := List.mem_map.mp h
    refine .call c o hc (B.nameS (in_lab hc)) ?_ rfl
    unfold inlOf at ho
    split at ho
    · rename_i m' e
      exact (M m' (findM_mem e).1).nameS (in_inl ho)
    · cases ho
theorem EndIs.head {m : DM} {ns : List Str} {x : Str} (h : EndIs m ns x) : (∃ r, Txt.split x "." = headS x :: r) ∧ okS x = true ∧ (headS x ∈ ns ∨ headS x ∈ m.calls.map (·.1)) := by
  cases h with
  | plain h n =>
    have e := split_plain (name_point n)
    have e2 : headS x = x := by unfold headS; rw [e]; rfl
    rw [e2]
    exact ⟨⟨[], e⟩, okS_name n, Or.inl h⟩
  | call c o hc n no e =>
    subst e
    have e := split_lab (name_point n) (name_point no)
    have e2 : headS (lab c.1 o) = c.1 := by unfold headS; rw [e]; rfl
    rw [e2]
    exact ⟨⟨[o], e⟩, okS_lab n no, Or.inr (List.mem_map_of_mem hc)⟩
theorem flat_len {α : Type} (f : α → List Str) (n : Nat) : ∀ l : List α, (∀ c ∈ l, (f c).length ≤ n) → (l.flatMap f).length ≤ n * l.length
  | [], _ => by simp
  | c :: l, h => by
    have ih := flat_len f n l fun d hd => h d (List.mem_cons_of_mem _ hd)
    have hc := h c (List.mem_cons_self ..)
    rw [List.flatMap_cons, List.length_append, List.length_cons, Nat.mul_succ]
    omega
theorem beg_len {ms : List DM} {m : DM} (B : DMBase m) (M : ∀ m' ∈ ms, DMBase m') : (begS ms m).length ≤ 8 ∧ (goeS ms m).length ≤ 8 := by
  have f1 := flat_len (fun c : Str × Str => (outOf ms c.2).map (lab c.1)) 2 m.calls fun c _ => by
    rw [List.length_map]
    unfold outOf
    split
    · rename_i m' e
      exact (M m' (findM_mem e).1).out
    · exact Nat.zero_le _
  have f2 := flat_len (fun c : Str × Str => (inlOf ms c.2).map (lab c.1)) 2 m.calls fun c _ => by
    rw [List.length_map]
    unfold inlOf
    split
    · rename_i m' e
      exact (M m' (findM_mem e).1).inl
    · exact Nat.zero_le _
  have h1 := B.inl
  have h2 := B.sta
  have h3 := B.out
  have h4 := B.few
  unfold begS goeS
  rw [List.length_append, List.length_append, List.length_append, List.length_append]
  constructor <;> omega
end My

namespace My
open PySem PySem.Spec PyProof.Rows L2
local macro_rules | `(tactic| walk_at "side") => `(tactic| first | (dsimp only; omega) | exact ⟨by omega, by omega⟩ | exact Or.inl ⟨by omega, by omega⟩ | exact Or.inr ⟨by omega, by omega⟩ | decide)
local macro_rules | `(tactic| walk_at "sq") => `(tactic| first | assumption | exact SqL.of (by assumption) | exact SqT.of (by assumption) | (refine L2.Same.seq (by assumption) ?_; walk_at "sq") | (refine L2.Same.seqT (by assumption) ?_; walk_at "sq") | exact Or.inl (by walk_at "sq") | exact Or.inr (by walk_at "sq"))
local macro_rules | `(tactic| walk_at "1") => `(tactic| first
  | refine ⟨_, rfl, iteT ?_⟩
  | refine ⟨_, rfl, iteF ?_⟩
  | refine ⟨_, rfl, ?_⟩
  | refine ⟨_, _, rfl, rfl, (by walk_at "side"), ?_⟩
  | refine ⟨_, _, rfl, rfl, ?_⟩
  | refine ⟨_, _, _, _, true, rfl, .ty _, .base (.int _), kit_ty (a := "int") (by decide +kernel), ?_⟩
  | refine ⟨_, _, _, _, false, rfl, .ty _, .base (.int _), kit_ty (a := "int") (by decide +kernel), ?_⟩
  | refine ⟨_, _, rfl, (by walk_at "sq"), ?_⟩
  | refine ⟨_, _, _, _, rfl, rfl, (by walk_at "sq"), (by first | rfl | assumption), ?_⟩
  | refine Or.inl ⟨_, _, _, _, rfl, rfl, (by walk_at "sq"), (by first | rfl | assumption), ?_⟩
  | refine Or.inr (Or.inl ⟨_, _, _, _, rfl, rfl, (by walk_at "sq"), (by first | rfl | assumption), ?_⟩)
  | refine ⟨_, _, rfl, Or.inl ⟨(by walk_at "sq"), ?_⟩⟩
  | refine ⟨rfl, ?_⟩
  | refine iteT ?_
  | refine iteF ?_
  | refine ⟨_, _, _, _, _, rfl, (by assumption), (by assumption), (by assumption), (by assumption), ?_⟩
  | refine Or.inl ⟨_, rfl, ?_⟩
  | refine Or.inr ⟨_, rfl, ?_⟩
  | refine ⟨_, _, rfl, (by walk_at "side"), ?_⟩
  | refine ⟨_, _, rfl, ?_⟩)
local macro_rules | `(tactic| walk_at "fld") => `(tactic| skip)
local macro_rules | `(tactic| walk_at "s") => `(tactic| repeat walk_at "1")
local macro_rules | `(tactic| walk_at "size") => `(tactic| first | exact Nat.le_of_ble_eq_true rfl | (simp only [List.length_map, List.length_append, List.length_cons, List.length_nil]; omega))
local macro_rules | `(tactic| walk_at "new") => `(tactic| (first | refine ⟨(by walk_at "size"), fun p hp => ?_⟩ | refine fun p hp => ?_); (generalize hq : upd _ p _ = H1); (obtain ⟨s, e⟩ := new_facts hp hq); clear hq)
section
variable {P : Program} {w : World} {K : PySem.W.Frag} {mg : Str → Option Value} {base : Heap}
abbrev s_law_begins : Stmt := topS 43
theorem sc_law_begins : FnScope ["module", "known", "found", "label", "name", "outlet"] ["module", "known"] (defScope s_law_begins) := ⟨rfl, rfl, rfl, by decide +kernel, rfl, by decide +kernel, by decide +kernel⟩
def spbegins : Sp := fun vs H Q _ => ∃ (d k : Addr) (m : DM) (ms : List DM), vs = [.ref d, .ref k] ∧ ModB H d m ∧ Known H k ms ∧ (∀ c ∈ m.calls, ∃ m', findM ms c.2 = some m') ∧ m.calls.length ≤ 4 ∧ ∀ (H' : Hp) (p : Addr), Same H H' → H p = none → H' p = some (.lst ((begS ms m).map V.str)) → Q (.ref p) H'
set_option maxHeartbeats 8000000 in
theorem ok_begins (D : Df K mg "_law_begins" s_law_begins ["module", "known"]) : Own P w K mg base "_law_begins" 1 ["module", "known"] spbegins := by
  refine D.own sc_law_begins (fun vs H Q E h => ?_) (fun f cdv A outer s H vs Q E hr h => ?_)
  · obtain ⟨_, _, _, _, rfl, _⟩ := h
    rfl
  · obtain ⟨d, k, m, ms, rfl, hB, hK, hC, hcl, kk⟩ := h
    have hu := hu_of hr
    refine ⟨_, (pss_cons (ps_set (i := 2) sc_law_begins.nd rfl (Or.inl rfl) (pe_op op_cat (pe_dget hu (pv 0) pe_str (fun _ _ => rfl)) (pe_dget hu (pv 0) pe_str (fun _ _ => rfl))))
  (pss_cons (ps_for PassesOwn.never rfl (pi_list (pe_dget hu (pv 0) pe_str (fun _ _ => rfl))) (pg_tup (by rfl) (pgs_cons (pg_name (i := 3) sc_law_begins.nd rfl (Or.inr rfl)) (pgs_cons (pg_name (i := 4) sc_law_begins.nd rfl (Or.inl rfl)) pgs_nil)))
    (pss_one (ps_set (i := 2) sc_law_begins.nd rfl (Or.inl rfl) (pe_op op_cat (pv 2) (pe_lc (own := [("outlet", 5)]) (g := gName 5) (tt := tYes) rfl sc_law_begins.nd (pi_list (pe_dget hu (pe_dget hu (pv 1) (pv 4) (fun _ _ => rfl)) pe_str (fun _ _ => rfl))) (blkOk_by (own := [("outlet", 5)]) (N := ["module", "known", "found", "label", "name", "outlet"]) (sc := defScope s_law_begins) (by decide +kernel)) (fun _ _ _ _ _ => (pg_name (i := 5) sc_law_begins.nd rfl (Or.inl rfl))) (fun _ _ _ _ _ => pts_nil) (fun _ _ _ _ _ => (pe_op op_add_str (pe_op op_add_str (pv 3) pe_str) (pv 5))))))))
  (pss_one (ps_ret (pv 2))))), ?_⟩
    obtain ⟨kvs, a1, a2, a3, a5, ed, v0, v1, v2, v3, v5, g1, g2, g3, g5⟩ := hB
    obtain ⟨e1, ok1, l1⟩ := g1.strL
    obtain ⟨e3, ok3, l3⟩ := g3.strL
    obtain ⟨kv, ek, hk⟩ := hK
    refine ⟨_, rfl, d, _, rfl, dget_s ed v1, _, rfl, d, _, rfl, dget_s ed v3, _, _, _, _, rfl, rfl, e1, e3, ?_, fun p np => ?_⟩
    · rw [List.length_map, List.length_map]
      exact Nat.le_trans (by omega : _ ≤ 4000) (by decide)
    generalize hq : upd H p _ = H1
    obtain ⟨s1, ep⟩ := new_facts np hq
    clear hq
    rw [← List.map_append] at ep
    cases g5 with
    | @lst A5 cs ds e5 hcs sm5 =>
      have ln : cs.length = m.calls.length := by rw [hcs.len, List.length_map]
      refine ⟨_, rfl, d, _, rfl, dget_s (s1 _ _ ed) v5, a5, rfl, ⟨_, SqL.of (s1 _ _ e5)⟩, for_seq (seqIt_l (SqL.of e5)) (fun i σ' H' => ∃ (q : Addr) (y z : Option V) (ts : List Str), σ' = [some (.ref d), some (.ref k), some (.ref q), y, z, none] ∧ Same H H' ∧ H q = none ∧ H' q = some (.lst (ts.map V.str)) ∧
        ts = m.inl ++ m.sta ++ (m.calls.take i).flatMap (fun c => (outOf ms c.2).map (lab c.1)) ∧ ts.length ≤ 4000 + 2000 * i) ?_ ?_ ?_ ?_⟩
      · exact ⟨p, none, none, _, rfl, s1, np, ep, by rw [List.take_zero, List.flatMap_nil, List.append_nil], by rw [List.length_append]; omega⟩
      · rintro i σ' H' ⟨_, _, _, _, _, s', _⟩
        exact s'
      · rintro i x σ' H' hx ⟨q, y, z, ts, rfl, s', nq, eq, ets, lts⟩
        obtain ⟨dd, hdd, hxd⟩ := hcs.get hx
        rw [List.getElem?_map] at hdd
        obtain ⟨c, hc, rfl⟩ := Option.map_eq_some_iff.mp hdd
        have hi : i < m.calls.length := (List.getElem?_eq_some_iff.mp hc).1
        obtain ⟨t, rfl, et, okl, okn⟩ := hxd.callD
        refine ⟨t, _, rfl, SqT.of (s' _ _ et), rfl, _, _, rfl, _, _, rfl, rfl, ?_⟩
        obtain ⟨m', hm'⟩ := hC c (List.mem_of_getElem? hc)
        obtain ⟨v', hv', hM'⟩ := hk _ _ hm'
        obtain ⟨d', kvs', b1, b2, b3, b4, b5, rfl, ed', w0, w1, w2, w3, w4, w5, f1, f2, f3, f4, f5⟩ := hM'
        obtain ⟨e2', ok2', l2'⟩ := f2.strL
        refine ⟨_, rfl, _, rfl, _, rfl, k, _, rfl, dget_s (s' _ _ ek) hv', d', _, rfl, dget_s (s' _ _ ed') w2, b2, rfl, ⟨_, SqL.of (s' _ _ e2')⟩, fun L nL => ?_⟩
        refine lc_seq (seqIt_l (SqL.of (s' _ _ e2'))) (LcP H' L fun j => (m'.out[j]?).map fun o => V.str (lab c.1 o)) (LcP.zero nL) (fun i H' q => q.same) ?_ ?_
        · intro j x H2 hx pq
          rw [List.getElem?_map] at hx
          obtain ⟨o, ho, rfl⟩ := Option.map_eq_some_iff.mp hx
          have hj : j < m'.out.length := (List.getElem?_eq_some_iff.mp ho).1
          have oko := ok2' o (List.mem_of_getElem? ho)
          have len1 : c.1.length ≤ 1000 := of_decide_eq_true (Bool.and_eq_true_iff.mp okl).2
          have len2 : o.length ≤ 1000 := of_decide_eq_true (Bool.and_eq_true_iff.mp oko).2
          have big : ∀ {n : Nat}, n ≤ 4000 → n ≤ sizeLine := fun h => Nat.le_trans h (by decide)
          have lp : (c.1 ++ ("." : Str)).length = c.1.length + 1 := by rw [TL.len_tl, TL.tl_append, List.length_append, TL.len_tl c.1]; rfl
          refine ⟨rfl, _, rfl, _, _, rfl, rfl, big (by show c.1.length + 1 ≤ 4000; omega), _, rfl, _, _, rfl, rfl, big (by rw [lp]; omega), ?_⟩
          exact pq.yes (Same.refl _) nL (small1000_2 (by omega)) (by rw [ho]; rfl)
        · intro H2 pq
          have e := pq.lst
          rw [List.length_map] at e
          have ef : (List.range m'.out.length).filterMap (fun j => (m'.out[j]?).map fun o => V.str (lab c.1 o)) = (m'.out.map (lab c.1)).map V.str := by
            rw [fm_get, List.map_map]
            rfl
          rw [ef] at e
          have s2 := pq.same
          refine ⟨q, L, _, _, rfl, rfl, s2 _ _ eq, e, ?_, fun r nr => ⟨r, _, _, ts ++ m'.out.map (lab c.1), rfl, ?_, ?_, ?_, ?_, ?_⟩⟩
          · rw [List.length_map, List.length_map, List.length_map]
            exact Nat.le_trans (by omega : _ ≤ 20000) (by decide)
          · exact (s'.trans s2).trans (same_upd nr)
          · exact (s'.trans s2).free nr
          · rw [upd_same, List.map_append]
          · rw [ets, List.append_assoc, List.take_add_one, hc, List.flatMap_append]
            show _ = _ ++ (_ ++ ([c].flatMap _))
            rw [List.flatMap_cons, List.flatMap_nil, List.append_nil]
            congr 2
            unfold outOf
            rw [hm']
          · rw [List.length_append, List.length_map]
            omega
      · rintro σ' H' ⟨q, y, z, ts, rfl, s', nq, eq, ets, lts⟩
        rw [ln, List.take_length] at ets
        refine ⟨_, rfl, kk H' q s' nq ?_⟩
        rw [eq, ets]
        rfl
abbrev s_law_goes : Stmt := topS 44
theorem sc_law_goes : FnScope ["module", "known", "found", "label", "name", "inlet"] ["module", "known"] (defScope s_law_goes) := ⟨rfl, rfl, rfl, by decide +kernel, rfl, by decide +kernel, by decide +kernel⟩
def spgoes : Sp := fun vs H Q _ => ∃ (d k : Addr) (m : DM) (ms : List DM), vs = [.ref d, .ref k] ∧ ModB H d m ∧ Known H k ms ∧ (∀ c ∈ m.calls, ∃ m', findM ms c.2 = some m') ∧ m.calls.length ≤ 4 ∧ ∀ (H' : Hp) (p : Addr), Same H H' → H p = none → H' p = some (.lst ((goeS ms m).map V.str)) → Q (.ref p) H'
set_option maxHeartbeats 8000000 in
theorem ok_goes (D : Df K mg "_law_goes" s_law_goes ["module", "known"]) : Own P w K mg base "_law_goes" 1 ["module", "known"] spgoes := by
  refine D.own sc_law_goes (fun vs H Q E h => ?_) (fun f cdv A outer s H vs Q E hr h => ?_)
  · obtain ⟨_, _, _, _, rfl, _⟩ := h
    rfl
  · obtain ⟨d, k, m, ms, rfl, hB, hK, hC, hcl, kk⟩ := h
    have hu := hu_of hr
    refine ⟨_, (pss_cons (ps_set (i := 2) sc_law_goes.nd rfl (Or.inl rfl) (pe_op op_cat (pe_dget hu (pv 0) pe_str (fun _ _ => rfl)) (pe_dget hu (pv 0) pe_str (fun _ _ => rfl))))
  (pss_cons (ps_for PassesOwn.never rfl (pi_list (pe_dget hu (pv 0) pe_str (fun _ _ => rfl))) (pg_tup (by rfl) (pgs_cons (pg_name (i := 3) sc_law_goes.nd rfl (Or.inr rfl)) (pgs_cons (pg_name (i := 4) sc_law_goes.nd rfl (Or.inl rfl)) pgs_nil)))
    (pss_one (ps_set (i := 2) sc_law_goes.nd rfl (Or.inl rfl) (pe_op op_cat (pv 2) (pe_lc (own := [("inlet", 5)]) (g := gName 5) (tt := tYes) rfl sc_law_goes.nd (pi_list (pe_dget hu (pe_dget hu (pv 1) (pv 4) (fun _ _ => rfl)) pe_str (fun _ _ => rfl))) (blkOk_by (own := [("inlet", 5)]) (N := ["module", "known", "found", "label", "name", "inlet"]) (sc := defScope s_law_goes) (by decide +kernel)) (fun _ _ _ _ _ => (pg_name (i := 5) sc_law_goes.nd rfl (Or.inl rfl))) (fun _ _ _ _ _ => pts_nil) (fun _ _ _ _ _ => (pe_op op_add_str (pe_op op_add_str (pv 3) pe_str) (pv 5))))))))
  (pss_one (ps_ret (pv 2))))), ?_⟩
    obtain ⟨kvs, a1, a2, a3, a5, ed, v0, v1, v2, v3, v5, g1, g2, g3, g5⟩ := hB
    obtain ⟨e1, ok1, l1⟩ := g3.strL
    obtain ⟨e3, ok3, l3⟩ := g2.strL
    obtain ⟨kv, ek, hk⟩ := hK
    refine ⟨_, rfl, d, _, rfl, dget_s ed v3, _, rfl, d, _, rfl, dget_s ed v2, _, _, _, _, rfl, rfl, e1, e3, ?_, fun p np => ?_⟩
    · rw [List.length_map, List.length_map]
      exact Nat.le_trans (by omega : _ ≤ 4000) (by decide)
    generalize hq : upd H p _ = H1
    obtain ⟨s1, ep⟩ := new_facts np hq
    clear hq
    rw [← List.map_append] at ep
    cases g5 with
    | @lst A5 cs ds e5 hcs sm5 =>
      have ln : cs.length = m.calls.length := by rw [hcs.len, List.length_map]
      refine ⟨_, rfl, d, _, rfl, dget_s (s1 _ _ ed) v5, a5, rfl, ⟨_, SqL.of (s1 _ _ e5)⟩, for_seq (seqIt_l (SqL.of e5)) (fun i σ' H' => ∃ (q : Addr) (y z : Option V) (ts : List Str), σ' = [some (.ref d), some (.ref k), some (.ref q), y, z, none] ∧ Same H H' ∧ H q = none ∧ H' q = some (.lst (ts.map V.str)) ∧
        ts = m.sta ++ m.out ++ (m.calls.take i).flatMap (fun c => (inlOf ms c.2).map (lab c.1)) ∧ ts.length ≤ 4000 + 2000 * i) ?_ ?_ ?_ ?_⟩
      · exact ⟨p, none, none, _, rfl, s1, np, ep, by rw [List.take_zero, List.flatMap_nil, List.append_nil], by rw [List.length_append]; omega⟩
      · rintro i σ' H' ⟨_, _, _, _, _, s', _⟩
        exact s'
      · rintro i x σ' H' hx ⟨q, y, z, ts, rfl, s', nq, eq, ets, lts⟩
        obtain ⟨dd, hdd, hxd⟩ := hcs.get hx
        rw [List.getElem?_map] at hdd
        obtain ⟨c, hc, rfl⟩ := Option.map_eq_some_iff.mp hdd
        have hi : i < m.calls.length := (List.getElem?_eq_some_iff.mp hc).1
        obtain ⟨t, rfl, et, okl, okn⟩ := hxd.callD
        refine ⟨t, _, rfl, SqT.of (s' _ _ et), rfl, _, _, rfl, _, _, rfl, rfl, ?_⟩
        obtain ⟨m', hm'⟩ := hC c (List.mem_of_getElem? hc)
        obtain ⟨v', hv', hM'⟩ := hk _ _ hm'
        obtain ⟨d', kvs', b1, b2, b3, b4, b5, rfl, ed', w0, w1, w2, w3, w4, w5, f1, f2, f3, f4, f5⟩ := hM'
        obtain ⟨e2', ok2', l2'⟩ := f1.strL
        refine ⟨_, rfl, _, rfl, _, rfl, k, _, rfl, dget_s (s' _ _ ek) hv', d', _, rfl, dget_s (s' _ _ ed') w1, b1, rfl, ⟨_, SqL.of (s' _ _ e2')⟩, fun L nL => ?_⟩
        refine lc_seq (seqIt_l (SqL.of (s' _ _ e2'))) (LcP H' L fun j => (m'.inl[j]?).map fun o => V.str (lab c.1 o)) (LcP.zero nL) (fun i H' q => q.same) ?_ ?_
        · intro j x H2 hx pq
          rw [List.getElem?_map] at hx
          obtain ⟨o, ho, rfl⟩ := Option.map_eq_some_iff.mp hx
          have hj : j < m'.inl.length := (List.getElem?_eq_some_iff.mp ho).1
          have oko := ok2' o (List.mem_of_getElem? ho)
          have len1 : c.1.length ≤ 1000 := of_decide_eq_true (Bool.and_eq_true_iff.mp okl).2
          have len2 : o.length ≤ 1000 := of_decide_eq_true (Bool.and_eq_true_iff.mp oko).2
          have big : ∀ {n : Nat}, n ≤ 4000 → n ≤ sizeLine := fun h => Nat.le_trans h (by decide)
          have lp : (c.1 ++ ("." : Str)).length = c.1.length + 1 := by rw [TL.len_tl, TL.tl_append, List.length_append, TL.len_tl c.1]; rfl
          refine ⟨rfl, _, rfl, _, _, rfl, rfl, big (by show c.1.length + 1 ≤ 4000; omega), _, rfl, _, _, rfl, rfl, big (by rw [lp]; omega), ?_⟩
          exact pq.yes (Same.refl _) nL (small1000_2 (by omega)) (by rw [ho]; rfl)
        · intro H2 pq
          have e := pq.lst
          rw [List.length_map] at e
          have ef : (List.range m'.inl.length).filterMap (fun j => (m'.inl[j]?).map fun o => V.str (lab c.1 o)) = (m'.inl.map (lab c.1)).map V.str := by
            rw [fm_get, List.map_map]
            rfl
          rw [ef] at e
          have s2 := pq.same
          refine ⟨q, L, _, _, rfl, rfl, s2 _ _ eq, e, ?_, fun r nr => ⟨r, _, _, ts ++ m'.inl.map (lab c.1), rfl, ?_, ?_, ?_, ?_, ?_⟩⟩
          · rw [List.length_map, List.length_map, List.length_map]
            exact Nat.le_trans (by omega : _ ≤ 20000) (by decide)
          · exact (s'.trans s2).trans (same_upd nr)
          · exact (s'.trans s2).free nr
          · rw [upd_same, List.map_append]
          · rw [ets, List.append_assoc, List.take_add_one, hc, List.flatMap_append]
            show _ = _ ++ (_ ++ ([c].flatMap _))
            rw [List.flatMap_cons, List.flatMap_nil, List.append_nil]
            congr 2
            unfold inlOf
            rw [hm']
          · rw [List.length_append, List.length_map]
            omega
      · rintro σ' H' ⟨q, y, z, ts, rfl, s', nq, eq, ets, lts⟩
        rw [ln, List.take_length] at ets
        refine ⟨_, rfl, kk H' q s' nq ?_⟩
        rw [eq, ets]
        rfl
end
end My

namespace My
open PySem PySem.Spec PyProof.Rows L2
local macro_rules | `(tactic| walk_at "side") => `(tactic| first | (dsimp only; omega) | exact ⟨by omega, by omega⟩ | exact Or.inl ⟨by omega, by omega⟩ | exact Or.inr ⟨by omega, by omega⟩ | decide)
local macro_rules | `(tactic| walk_at "sq") => `(tactic| first | assumption | exact SqL.of (by assumption) | exact SqT.of (by assumption) | (refine L2.Same.seq (by assumption) ?_; walk_at "sq") | (refine L2.Same.seqT (by assumption) ?_; walk_at "sq") | exact Or.inl (by walk_at "sq") | exact Or.inr (by walk_at "sq"))
local macro_rules | `(tactic| walk_at "1") => `(tactic| first
  | refine ⟨_, rfl, iteT ?_⟩
  | refine ⟨_, rfl, iteF ?_⟩
  | refine ⟨_, rfl, ?_⟩
  | refine ⟨_, _, rfl, rfl, (by walk_at "side"), ?_⟩
  | refine ⟨_, _, rfl, rfl, ?_⟩
  | refine ⟨_, _, _, _, true, rfl, .ty _, .base (.int _), kit_ty (a := "int") (by decide +kernel), ?_⟩
  | refine ⟨_, _, _, _, false, rfl, .ty _, .base (.int _), kit_ty (a := "int") (by decide +kernel), ?_⟩
  | refine ⟨_, _, rfl, (by walk_at "sq"), ?_⟩
  | refine ⟨_, _, _, _, rfl, rfl, (by walk_at "sq"), (by first | rfl | assumption), ?_⟩
  | refine Or.inl ⟨_, _, _, _, rfl, rfl, (by walk_at "sq"), (by first | rfl | assumption), ?_⟩
  | refine Or.inr (Or.inl ⟨_, _, _, _, rfl, rfl, (by walk_at "sq"), (by first | rfl | assumption), ?_⟩)
  | refine ⟨_, _, rfl, Or.inl ⟨(by walk_at "sq"), ?_⟩⟩
  | refine ⟨rfl, ?_⟩
  | refine iteT ?_
  | refine iteF ?_
  | refine ⟨_, _, _, _, _, rfl, (by assumption), (by assumption), (by assumption), (by assumption), ?_⟩
  | refine Or.inl ⟨_, rfl, ?_⟩
  | refine Or.inr ⟨_, rfl, ?_⟩
  | refine ⟨_, _, rfl, (by walk_at "side"), ?_⟩
  | refine ⟨_, _, rfl, ?_⟩)
local macro_rules | `(tactic| walk_at "fld") => `(tactic| skip)
local macro_rules | `(tactic| walk_at "s") => `(tactic| repeat walk_at "1")
local macro_rules | `(tactic| walk_at "size") => `(tactic| first | exact Nat.le_of_ble_eq_true rfl | (simp only [List.length_map, List.length_append, List.length_cons, List.length_nil]; omega))
local macro_rules | `(tactic| walk_at "new") => `(tactic| (first | refine ⟨(by walk_at "size"), fun p hp => ?_⟩ | refine fun p hp => ?_); (generalize hq : upd _ p _ = H1); (obtain ⟨s, e⟩ := new_facts hp hq); clear hq)
theorem okS_all {xs : List Str} (h : ∀ x ∈ xs, okS x = true) : True := trivial
def spLinks : Sp := fun vs H Q _ => ∃ (b d k : Addr) (G : Hp) (m : DM) (ms : List DM), vs = [.ref b, .ref d, .ref k] ∧ Same G H ∧ BoxAt H b ∧ G b = none ∧ ModB H d m ∧ Known H k ms ∧ (∀ c ∈ m.calls, ∃ m', findM ms c.2 = some m') ∧ DMBase m ∧ (∀ m' ∈ ms, DMBase m') ∧
  ∀ (G' H' : Hp) (p : Addr) (ls : List (Str × Str × Nat × Nat)), Go b G H G' H' → ls.length ≤ 8 → (∀ l ∈ ls, linkOk ms m l) → Dv G' (.ref p) (.list (ls.map linkD)) → Q (.ref p) H'
section
variable {P : Program} {w : World} {K : PySem.W.Frag} {mg : Str → Option Value} {base : Heap}
abbrev s_law_links : Stmt := topS 45
theorem sc_law_links : FnScope ["box", "module", "known", "ends", "begins", "goes", "found", "turn", "first", "then", "is_onward", "marks", "label", "name"] ["box", "module", "known"] (defScope s_law_links) := ⟨rfl, rfl, rfl, by decide +kernel, rfl, by decide +kernel, by decide +kernel⟩
set_option maxHeartbeats 16000000 in
theorem ok_links (D : Df K mg "_law_links" s_law_links ["box", "module", "known"]) (T : Txt mg) (o_law_take : Own P w K mg base "_law_take" 1 ["box", "many"] spTake) (o_law_pick : Own P w K mg base "_law_pick" 2 ["box", "items"] spPick)
    (o_law_begins : Own P w K mg base "_law_begins" 1 ["module", "known"] spbegins) (o_law_goes : Own P w K mg base "_law_goes" 1 ["module", "known"] spgoes) : Own P w K mg base "_law_links" 3 ["box", "module", "known"] spLinks := by
  refine D.own sc_law_links (fun vs H Q E h => ?_) (fun f cdv A outer s H vs Q E hr h => ?_)
  · obtain ⟨_, _, _, _, _, _, rfl, _⟩ := h
    rfl
  · obtain ⟨b, d, k, G, m, ms, rfl, sG, hb, Gb, hB, hK, hC, B, M, kk⟩ := h
    have hu := hu_of hr
    refine ⟨_, (pss_cons (ps_set (i := 3) sc_law_links.nd rfl (Or.inl rfl) (pe_op op_cat (pe_op op_cat (pe_op op_cat (pe_dget hu (pv 1) pe_str (fun _ _ => rfl)) (pe_dget hu (pv 1) pe_str (fun _ _ => rfl))) (pe_lc (own := [("label", 12), ("name", 13)]) (g := gTup K 2 (gCons (gName 12) (gCons (gName 13) gNil))) (tt := tYes) rfl sc_law_links.nd (pi_list (pe_dget hu (pv 1) pe_str (fun _ _ => rfl))) (blkOk_by (own := [("label", 12), ("name", 13)]) (N := ["box", "module", "known", "ends", "begins", "goes", "found", "turn", "first", "then", "is_onward", "marks", "label", "name"]) (sc := defScope s_law_links) (by decide +kernel)) (fun _ _ _ _ _ => (pg_tup (by rfl) (pgs_cons (pg_name (i := 12) sc_law_links.nd rfl (Or.inl rfl)) (pgs_cons (pg_name (i := 13) sc_law_links.nd rfl (Or.inl rfl)) pgs_nil)))) (fun _ _ _ _ _ => pts_nil) (fun _ _ _ _ _ => (pv 12)))) (pe_dget hu (pv 1) pe_str (fun _ _ => rfl))))
  (pss_cons (ps_par3 (i := 4) (j := 5) (l := 6) (by rfl) sc_law_links.nd rfl rfl rfl (by decide) (by decide) (by decide) rfl rfl rfl (pa_cons (pe_own o_law_begins (hr.mono (by decide)) (pa_cons (pv 1) (pa_cons (pv 2) pa_nil))) (pa_cons (pe_own o_law_goes (hr.mono (by decide)) (pa_cons (pv 1) (pa_cons (pv 2) pa_nil))) (pa_cons (pe_lst pa_nil) pa_nil))) (by rfl))
  (pss_cons (ps_if (PW.pt (pw_or (pt_cmpR (op_eqN hr.units) (pv 4) (pe_lst pa_nil) (nomark _)) (pw_or1 (pt_cmpR (op_eqN hr.units) (pv 5) (pe_lst pa_nil) (nomark _)))))
    (pss_one (ps_ret (pv 6)))
    pss_nil)
  (pss_cons (ps_for PassesOwn.never rfl (pi_range1 (by rfl) T.range (pa_cons (pe_op op_add pe_int (pe_own o_law_take (hr.mono (by decide)) (pa_cons (pv 0) (pa_cons pe_int pa_nil)))) pa_nil)) (pg_name (i := 7) sc_law_links.nd rfl (Or.inl rfl))
    (pss_cons (ps_par (i := 8) (j := 9) (by rfl) sc_law_links.nd rfl rfl (by decide) rfl rfl (pa_cons (pe_own o_law_pick (hr.mono (by decide)) (pa_cons (pv 0) (pa_cons (pv 4) pa_nil))) (pa_cons (pe_own o_law_pick (hr.mono (by decide)) (pa_cons (pv 0) (pa_cons (pv 5) pa_nil))) pa_nil)) (by rfl))
      (pss_cons (ps_set (i := 10) sc_law_links.nd rfl (Or.inl rfl) (pe_cmpR op_lt (pe_bm PySem.F.plainAttrs_list PySem.F.slot_list_index PySem.F.type_list_index mt_index (pv 3) (pa_cons (pe_ix ix_list (pe_m1 PySem.F.slot_str_split PySem.F.type_str_split mt_split (pv 8) pe_str) pe_int (fun _ _ => rfl)) pa_nil)) (pe_bm PySem.F.plainAttrs_list PySem.F.slot_list_index PySem.F.type_list_index mt_index (pv 3) (pa_cons (pe_ix ix_list (pe_m1 PySem.F.slot_str_split PySem.F.type_str_split mt_split (pv 9) pe_str) pe_int (fun _ _ => rfl)) pa_nil)) (nomark _)))
      (pss_cons (ps_set (i := 11) sc_law_links.nd rfl (Or.inl rfl) (pe_ifExp (pt_val (pv 10)) (pe_own o_law_take (hr.mono (by decide)) (pa_cons (pv 0) (pa_cons pe_int pa_nil))) (pe_op op_add pe_int (pe_own o_law_take (hr.mono (by decide)) (pa_cons (pv 0) (pa_cons pe_int pa_nil))))))
      (pss_one (ps_expr (pe_bm PySem.F.plainAttrs_list PySem.F.slot_list_append PySem.F.type_list_append mt_append (pv 6) (pa_cons (pe_tup (pa_cons (pv 8) (pa_cons (pv 9) (pa_cons (pe_ifExp (PW.pt (pw_and (pt_val (pv 10)) (pw_and1 (pt_cmpR op_eq (pe_own o_law_take (hr.mono (by decide)) (pa_cons (pv 0) (pa_cons pe_int pa_nil))) pe_int (nomark _))))) pe_int (pv 11)) (pa_cons (pe_own o_law_take (hr.mono (by decide)) (pa_cons (pv 0) (pa_cons pe_int pa_nil))) pa_nil))))) pa_nil))))))))
  (pss_one (ps_ret (pv 6))))))), ?_⟩
    obtain ⟨kvs, a1, a2, a3, a5, ed, v0, v1, v2, v3, v5, g1, g2, g3, g5⟩ := id hB
    obtain ⟨e1, ok1, l1⟩ := g1.strL
    obtain ⟨e2, ok2, l2⟩ := g2.strL
    obtain ⟨e3, ok3, l3⟩ := g3.strL
    have big : ∀ {n : Nat}, n ≤ 40000 → n ≤ sizeLine := fun h => Nat.le_trans h (by decide)
    obtain ⟨lb, lg⟩ := beg_len B M
    have bi := fun x hx => beg_is (x := x) B M hx
    have gi := fun x hx => goe_is (x := x) B M hx
    -- ends
    refine ⟨_, rfl, d, _, rfl, dget_s ed v1, _, rfl, d, _, rfl, dget_s ed v3, _, _, _, _, rfl, rfl, e1, e3, big (by rw [List.length_map, List.length_map]; omega), fun p1 n1 => ?_⟩
    generalize hq : upd H p1 _ = H1
    obtain ⟨s1, ep1⟩ := new_facts n1 hq
    clear hq
    rw [← List.map_append] at ep1
    cases g5 with
    | @lst A5 cs ds e5 hcs sm5 =>
      have ln : cs.length = m.calls.length := by rw [hcs.len, List.length_map]
      refine ⟨_, rfl, d, _, rfl, dget_s (s1 _ _ ed) v5, a5, rfl, ⟨_, SqL.of (s1 _ _ e5)⟩, fun L nL => ?_⟩
      refine lc_seq (seqIt_l (SqL.of (s1 _ _ e5))) (LcP H1 L fun j => (m.calls[j]?).map fun c => V.str c.1) (LcP.zero nL) (fun i H' q => q.same) ?_ ?_
      · intro j x H2 hx pq
        obtain ⟨dd, hdd, hxd⟩ := hcs.get hx
        rw [List.getElem?_map] at hdd
        obtain ⟨c, hc, rfl⟩ := Option.map_eq_some_iff.mp hdd
        have hj : j < m.calls.length := (List.getElem?_eq_some_iff.mp hc).1
        obtain ⟨t, rfl, et, okl, okn⟩ := hxd.callD
        have hf := B.few
        refine ⟨t, _, rfl, SqT.of (pq.same _ _ (s1 _ _ et)), rfl, _, _, rfl, _, _, rfl, rfl, rfl, _, rfl, pq.yes (Same.refl _) nL (small1000_2 (by omega)) (by rw [hc]; rfl)⟩
      · intro H2 pq
        have eL := pq.lst
        rw [ln] at eL
        rw [show (List.range m.calls.length).filterMap (fun j => (m.calls[j]?).map fun c => V.str c.1) = (m.calls.map (·.1)).map V.str by rw [fm_get, List.map_map]; rfl] at eL
        have s2 := pq.same
        clear pq
        have s12 := s1.trans s2
        have hf := B.few
        refine ⟨p1, L, _, _, rfl, rfl, s2 _ _ ep1, eL, big (by rw [List.length_map, List.length_append, List.length_map, List.length_map]; omega), fun p3 n3 => ?_⟩
        generalize hq : upd H2 p3 _ = H3
        obtain ⟨s3, ep3⟩ := new_facts n3 hq
        clear hq
        rw [← List.map_append] at ep3
        have s13 := s12.trans s3
        refine ⟨_, rfl, d, _, rfl, dget_s (s13 _ _ ed) v2, p3, a2, _, _, rfl, rfl, ep3, s13 _ _ e2, big (by simp only [List.length_map, List.length_append]; omega), fun pe ne => ?_⟩
        generalize hq : upd H3 pe _ = H4
        obtain ⟨s4, ee⟩ := new_facts ne hq
        clear hq
        rw [← List.map_append] at ee
        have s14 := s13.trans s4
        have nE0 : H pe = none := s13.free ne
        -- begins, goes
        refine ⟨_, rfl, _, rfl, d, k, m, ms, rfl, hB.same s14, hK.same s14, hC, by omega, fun H5 pb s5 nb eb => ?_⟩
        have s15 := s14.trans s5
        refine ⟨_, rfl, _, rfl, d, k, m, ms, rfl, hB.same s15, hK.same s15, hC, by omega, fun H6 pg s6 ng eg => ?_⟩
        have s16 := s15.trans s6
        refine ⟨Nat.zero_le _, fun F nF => ?_⟩
        generalize hq : upd H6 F _ = H7
        obtain ⟨s7, eF⟩ := new_facts nF hq
        clear hq
        refine ⟨_, _, _, rfl, ?_⟩
        have s17 := s16.trans s7
        have nB0 : H pb = none := s14.free nb
        have nG0 : H pg = none := s15.free ng
        have nF0 : H F = none := s16.free nF
        have ee7 := s7 _ _ (s6 _ _ (s5 _ _ ee))
        have eb7 := s7 _ _ (s6 _ _ eb)
        have eg7 := s7 _ _ eg
        have g0 : Go b G H G H7 := (Go.refl sG hb Gb).same s17
        have pb_b : pb ≠ b := hb.ne nB0
        have pg_b : pg ≠ b := hb.ne nG0
        have pe_b : pe ≠ b := hb.ne nE0
        have pF_b : F ≠ b := hb.ne nF0
        have pb_F : pb ≠ F := ne_of_none (s6 _ _ eb) nF
        have pg_F : pg ≠ F := ne_of_none eg nF
        have pe_F : pe ≠ F := ne_of_none (s6 _ _ (s5 _ _ ee)) nF
        have pb_g : pb ≠ pg := ne_of_none eb ng
        have pe_g : pe ≠ pg := ne_of_none (s5 _ _ ee) ng
        have pe_bb : pe ≠ pb := ne_of_none ee nb
        have fe : G pe = none := sG.free nE0
        have fb : G pb = none := sG.free nB0
        have fg : G pg = none := sG.free nG0
        have fF : G F = none := sG.free nF0
        obtain ⟨G1, hG1⟩ : ∃ G1, G1 = upd (upd (upd G pe (.lst ((endsS m).map V.str))) pb (.lst ((begS ms m).map V.str))) pg (.lst ((goeS ms m).map V.str)) := ⟨_, rfl⟩
        have g3' : Go b G H G1 H7 := by
          rw [hG1]
          exact ((g0.freeze nE0 ee7 fe pe_b).freeze nB0 eb7 (by rw [upd_ne pe_bb.symm]; exact fb) pb_b).freeze nG0 eg7 (by rw [upd_ne pb_g.symm, upd_ne pe_g.symm]; exact fg) pg_b
        have qg : G1 pg = some (.lst ((goeS ms m).map V.str)) := by rw [hG1, upd_same]
        have qb : G1 pb = some (.lst ((begS ms m).map V.str)) := by rw [hG1, upd_ne pb_g, upd_same]
        have qe : G1 pe = some (.lst ((endsS m).map V.str)) := by rw [hG1, upd_ne pe_g, upd_ne pe_bb, upd_same]
        have qF : G1 F = none := by rw [hG1, upd_ne pg_F.symm, upd_ne pb_F.symm, upd_ne pe_F.symm]; exact fF
        have lb0 : 0 < (begS ms m).length := by
          unfold begS
          have := B.sta0
          rw [List.length_append, List.length_append]
          omega
        have lg0 : 0 < (goeS ms m).length := by
          unfold goeS
          have := B.sta0
          rw [List.length_append, List.length_append]
          omega
        clear hG1 s1 s2 s3 s4 s5 s6 s7 s12 s13 s14 s15 s16 s17 ee7 eb7 eg7 ee eb eg ep1 ep3 eL n1 nL n3 ne nb ng nF g0 fe fb fg fF e1 e2 e3 e5 ed v0 v1 v2 v3 v5 g1 g2 g3 hcs hB hK hC pb_F pg_F pe_F pb_g pe_g pe_bb
        -- neither is empty
        refine ⟨_, rfl, Nat.zero_le _, fun r1 m1 => ?_⟩
        generalize hq : upd H7 r1 _ = H8
        obtain ⟨s8, er1⟩ := new_facts m1 hq
        clear hq
        have g8 := g3'.same s8
        refine ⟨pb, r1, _, rfl, rfl, SqL.of (g8.gh _ _ qb), SqL.of er1, _, rfl, ?_⟩
        rw [show ((begS ms m).map V.str).isEmpty = false by rw [List.isEmpty_map]; cases hz : begS ms m with | nil => rw [hz] at lb0; cases lb0 | cons x l => rfl]
        refine iteF ?_
        refine ⟨_, rfl, Nat.zero_le _, fun r2 m2 => ?_⟩
        generalize hq : upd H8 r2 _ = H9
        obtain ⟨s9, er2⟩ := new_facts m2 hq
        clear hq
        have g9 := g8.same s9
        refine ⟨pg, r2, _, rfl, rfl, SqL.of (g9.gh _ _ qg), SqL.of er2, _, rfl, ?_⟩
        rw [show ((goeS ms m).map V.str).isEmpty = false by rw [List.isEmpty_map]; cases hz : goeS ms m with | nil => rw [hz] at lg0; cases lg0 | cons x l => rfl]
        refine iteF ?_
        have eF9 : H9 F = some (.lst []) := s9 _ _ (s8 _ _ eF)
        clear s8 s9 er1 er2 m1 m2 g8 g3' eF
        -- the loop
        refine ⟨_, rfl, b, 7, rfl, by decide, by decide, g9.box, fun H10 j hj bx10 box10 => ?_⟩
        refine ⟨_, _, rfl, rfl, ((2 + j : Nat) : Int), (by show [V.int (2 + (j : Int))] = [V.int ((2 + j : Nat) : Int)]; rw [show (2 + (j : Int)) = ((2 + j : Nat) : Int) by omega]), by omega, by omega, ?_⟩
        refine for_range (lo := 0) (n := 2 + j) (fun i σ' H' => ∃ (Gi : Hp) (vs : List V) (ls : List (Str × Str × Nat × Nat)) (y7 y8 y9 y10 y11 : Option V), σ' = [some (.ref b), some (.ref d), some (.ref k), some (.ref pe), some (.ref pb), some (.ref pg), some (.ref F), y7, y8, y9, y10, y11, none, none] ∧
          Go b G H Gi H' ∧ Same G1 Gi ∧ Gi F = none ∧ H' F = some (.lst vs) ∧ DvAll Gi vs (ls.map linkD) ∧ ls.length = i ∧ ∀ l ∈ ls, linkOk ms m l) ?_ ?_ ?_
        · exact ⟨G1, [], [], none, none, none, none, none, rfl, g9.take bx10 box10, Same.refl _, qF, bx10 _ _ pF_b eF9, .nil, rfl, fun l hl => nomatch hl⟩
        · rintro i σ' H' hi ⟨Gi, vs, ls, y7, y8, y9, y10, y11, rfl, gg, s1, nF, eF, hv, hl, hok⟩
          have Fb := pF_b
          -- two ends
          refine ⟨_, rfl, _, rfl, b, pb, _, rfl, gg.box, pb_b, gg.gh _ _ (s1 _ _ qb), by rw [List.length_map]; exact lb0, by rw [List.length_map]; omega, fun Ha x hx bxa boxa => ?_⟩
          obtain ⟨f, hf, rfl⟩ := List.mem_map.mp hx
          have ga := gg.take bxa boxa
          refine ⟨_, rfl, _, rfl, b, pg, _, rfl, boxa, pg_b, ga.gh _ _ (s1 _ _ qg), by rw [List.length_map]; exact lg0, by rw [List.length_map]; omega, fun Hb x2 hx2 bxb boxb => ?_⟩
          obtain ⟨t, ht, rfl⟩ := List.mem_map.mp hx2
          have gb := ga.take bxb boxb
          have eFb := bxb _ _ pF_b (bxa _ _ pF_b eF)
          refine ⟨_, _, rfl, ?_⟩
          obtain ⟨⟨rf, sf⟩, okf, hdf⟩ := (bi f hf).head
          obtain ⟨⟨rt, st⟩, okt, hdt⟩ := (gi t ht).head
          have inf : headS f ∈ endsS m := by
            unfold endsS
            rcases hdf with h | h
            · exact List.mem_append_left _ (List.mem_append_left _ h)
            · exact List.mem_append_left _ (List.mem_append_right _ h)
          have int_ : headS t ∈ endsS m := by
            unfold endsS
            rcases hdt with h | h
            · rcases List.mem_append.mp h with h | h
              · exact List.mem_append_left _ (List.mem_append_left _ (List.mem_append_right _ h))
              · exact List.mem_append_right _ h
            · exact List.mem_append_left _ (List.mem_append_right _ h)
          have lenf : f.length ≤ 1000 := of_decide_eq_true (Bool.and_eq_true_iff.mp okf).2
          have lent : t.length ≤ 1000 := of_decide_eq_true (Bool.and_eq_true_iff.mp okt).2
          have idx : ∀ {x : Str}, x ∈ endsS m → ((endsS m).map V.str)[idxS (endsS m) x]? = some (.str x) ∧ eqV (.str x) (.str x) = true ∧ ∀ (j : Nat) (z' : V), j < idxS (endsS m) x → ((endsS m).map V.str)[j]? = some z' → eqV z' (.str x) = false := fun {x} hx => by
            refine ⟨by rw [List.getElem?_map, idxS_at hx]; rfl, beq_self_eq_true x, fun j z' hj e => ?_⟩
            rw [List.getElem?_map] at e
            obtain ⟨y, hy, rfl⟩ := Option.map_eq_some_iff.mp e
            exact idxS_no hj hy
          -- onward
          refine ⟨_, rfl, Or.inl ⟨rfl, _, SqL.of (gb.gh _ _ (s1 _ _ qe))⟩, _, rfl, ⟨_, rfl⟩, f, ".", rfl, rfl, by rfl, big (by omega), fun w1 m1 => ?_⟩
          generalize hq : upd Hb w1 _ = Hc
          obtain ⟨sc, ec⟩ := new_facts m1 hq
          clear hq
          have gc := gb.same sc
          refine ⟨w1, _, 0, .str (headS f), rfl, rfl, SqL.of ec, (show atI _ ((0 : Nat) : Int) = some _ from atI_nat (by rw [sf]; rfl)), ?_⟩
          obtain ⟨i1, i2, i3⟩ := idx inf
          refine ⟨pe, _, _, _, _, rfl, rfl, SqL.of (gc.gh _ _ (s1 _ _ qe)), rfl, flat_strs _, i1, i2, i3, ?_⟩
          refine ⟨_, rfl, Or.inl ⟨rfl, _, SqL.of (gc.gh _ _ (s1 _ _ qe))⟩, _, rfl, ⟨_, rfl⟩, t, ".", rfl, rfl, by rfl, big (by omega), fun w2 m2 => ?_⟩
          generalize hq : upd Hc w2 _ = Hd
          obtain ⟨sd, edd⟩ := new_facts m2 hq
          clear hq
          have gd := gc.same sd
          refine ⟨w2, _, 0, .str (headS t), rfl, rfl, SqL.of edd, (show atI _ ((0 : Nat) : Int) = some _ from atI_nat (by rw [st]; rfl)), ?_⟩
          obtain ⟨j1, j2, j3⟩ := idx int_
          refine ⟨pe, _, _, _, _, rfl, rfl, SqL.of (gd.gh _ _ (s1 _ _ qe)), rfl, flat_strs _, j1, j2, j3, ?_⟩
          refine ⟨_, _, rfl, rfl, ?_⟩
          have eFd : Hd F = some (.lst vs) := sd _ _ (sc _ _ eFb)
          have eo : decide (((idxS (endsS m) (headS f) : Nat) : Int) < ((idxS (endsS m) (headS t) : Nat) : Int)) = onward m f t := by
            unfold onward
            exact decide_eq_decide.mpr (by omega)
          have fin : ∀ (Hn : Hp) (k' l' : Nat) (tt : Addr) (y7 y11 : Option V), Go b G H Gi Hn → Hn F = some (.lst vs) → k' ≤ 2 → l' ≤ 9 → (k' = 0 → onward m f t = true) → Hn tt = none →
            ∃ (Gi : Hp) (vs_1 : List V) (ls : List (Str × Str × Nat × Nat)) (z7 z8 z9 z10 z11 : Option V), [some (V.ref b), some (.ref d), some (.ref k), some (.ref pe), some (.ref pb), some (.ref pg), some (.ref F), y7, some (.str f), some (.str t), some (.bl (onward m f t)), y11, none, none] = [some (.ref b), some (.ref d), some (.ref k), some (.ref pe), some (.ref pb), some (.ref pg), some (.ref F), z7, z8, z9, z10, z11, none, none] ∧
              Go b G H Gi (upd (upd Hn tt (.tup [.str f, .str t, .int (k' : Nat), .int (l' : Nat)])) F (.lst (vs ++ [.ref tt]))) ∧ Same G1 Gi ∧ Gi F = none ∧ (upd (upd Hn tt (.tup [.str f, .str t, .int (k' : Nat), .int (l' : Nat)])) F (.lst (vs ++ [.ref tt]))) F = some (.lst vs_1) ∧ DvAll Gi vs_1 (ls.map linkD) ∧ ls.length = i + 1 ∧ ∀ l ∈ ls, linkOk ms m l := fun Hn k' l' tt y7 y11 gn eFn hk' hl' ho ntt => by
            have ttF : tt ≠ F := (ne_of_none eFn ntt).symm
            have gl := gn.lay (o := .tup [.str f, .str t, .int (k' : Nat), .int (l' : Nat)]) ntt
            have gtt : Gi tt = none := gn.freeG ntt
            refine ⟨upd Gi tt (.tup [.str f, .str t, .int (k' : Nat), .int (l' : Nat)]), vs ++ [.ref tt], ls ++ [(f, t, k', l')], y7, _, _, _, y11, rfl, gl.change nF0 (by rw [upd_ne ttF.symm]; exact nF) pF_b, s1.trans (same_upd gtt), by rw [upd_ne ttF.symm]; exact nF, upd_same, ?_, by rw [List.length_append, hl]; rfl, ?_⟩
            · rw [List.map_append]
              refine (hv.same (same_upd gtt)).app ?_
              exact .cons (.tup upd_same (.cons (.str okf) (.cons (.str okt) (.cons (.int _) (.cons (.int _) .nil)))) (by show 4 ≤ 2000; decide)) .nil
            · intro l hl2
              rcases List.mem_append.mp hl2 with hl2 | hl2
              · exact hok l hl2
              · rw [List.mem_singleton.mp hl2]
                exact ⟨hf, ht, hk', hl', ho⟩
          clear sc sd ec edd m1 m2 gb gc ga bxa bxb boxa boxb eF eFb i1 i2 i3 j1 j2 j3
          have eo2 : (fun (i j : Int) => V.bl (decide (i < j))) ((idxS (endsS m) (headS f) : Nat) : Int) ((idxS (endsS m) (headS t) : Nat) : Int) = V.bl (onward m f t) := congrArg V.bl eo
          rw [eo2]
          clear eo eo2
          refine ⟨_, rfl, ?_⟩
          cases hon : onward m f t with
          | true =>
            rw [hon] at fin
            refine ⟨_, rfl, iteT ?_⟩
            refine ⟨_, rfl, b, 3, rfl, by decide, by decide, gd.box, fun He k1 hk1 bxe boxe => ?_⟩
            have ge := gd.take bxe boxe
            have eFe := bxe _ _ pF_b eFd
            refine ⟨_, rfl, Or.inl ⟨rfl, _, SqL.of eFe⟩, _, rfl, _, rfl, _, rfl, ?_⟩
            refine ⟨_, rfl, iteT ?_⟩
            refine ⟨_, rfl, b, 2, rfl, by decide, by decide, ge.box, fun Hf k2 hk2 bxf boxf => ?_⟩
            have gf := ge.take bxf boxf
            have eFf := bxf _ _ pF_b eFe
            refine ⟨rfl, _, rfl, ?_⟩
            refine ite2 (fun c => ?_) (fun c => ?_)
            · refine ⟨_, rfl, b, 10, rfl, by decide, by decide, gf.box, fun Hg k3 hk3 bxg boxg => ?_⟩
              have gg' := gf.take bxg boxg
              have eFg := bxg _ _ pF_b eFf
              refine ⟨Nat.le_of_ble_eq_true rfl, fun tt ntt => ?_⟩
              have ttF : F ≠ tt := ne_of_none eFg ntt
              refine ⟨F, vs, _, rfl, rfl, (by rw [upd_ne ttF]; exact eFg), small1000_2 (by rw [hv.len, List.length_map]; omega), ?_⟩
              exact fin Hg 0 k3 tt _ _ gg' eFg (by omega) (by omega) (fun _ => rfl) ntt
            · refine ⟨_, rfl, ?_⟩
              refine ⟨_, rfl, b, 10, rfl, by decide, by decide, gf.box, fun Hg k3 hk3 bxg boxg => ?_⟩
              have gg' := gf.take bxg boxg
              have eFg := bxg _ _ pF_b eFf
              refine ⟨Nat.le_of_ble_eq_true rfl, fun tt ntt => ?_⟩
              have ttF : F ≠ tt := ne_of_none eFg ntt
              refine ⟨F, vs, _, rfl, rfl, (by rw [upd_ne ttF]; exact eFg), small1000_2 (by rw [hv.len, List.length_map]; omega), ?_⟩
              exact fin Hg k1 k3 tt _ _ gg' eFg (by omega) (by omega) (fun _ => rfl) ntt
          | false =>
            rw [hon] at fin
            refine ⟨_, rfl, iteF ?_⟩
            refine ⟨_, rfl, b, 2, rfl, by decide, by decide, gd.box, fun He k1 hk1 bxe boxe => ?_⟩
            have ge := gd.take bxe boxe
            have eFe := bxe _ _ pF_b eFd
            refine ⟨_, _, rfl, rfl, ?_⟩
            have e1 : (fun (i j : Int) => V.int (i + j)) 1 (k1 : Int) = V.int ((1 + k1 : Nat) : Int) := congrArg V.int (by omega)
            rw [e1]
            refine ⟨_, rfl, Or.inl ⟨rfl, _, SqL.of eFe⟩, _, rfl, _, rfl, _, rfl, ?_⟩
            refine ⟨_, rfl, iteF ?_⟩
            refine iteF ?_
            refine ⟨_, rfl, ?_⟩
            refine ⟨_, rfl, b, 10, rfl, by decide, by decide, ge.box, fun Hg k3 hk3 bxg boxg => ?_⟩
            have gg' := ge.take bxg boxg
            have eFg := bxg _ _ pF_b eFe
            refine ⟨Nat.le_of_ble_eq_true rfl, fun tt ntt => ?_⟩
            have ttF : F ≠ tt := ne_of_none eFg ntt
            refine ⟨F, vs, _, rfl, rfl, (by rw [upd_ne ttF]; exact eFg), small1000_2 (by rw [hv.len, List.length_map]; omega), ?_⟩
            exact fin Hg (1 + k1) k3 tt _ _ gg' eFg (by omega) (by omega) (fun q => absurd q (by omega)) ntt
        · rintro σ' H' ⟨Gi, vs, ls, y7, y8, y9, y10, y11, rfl, gg, s1, nF, eF, hv, hl, hok⟩
          refine ⟨_, rfl, ?_⟩
          have g' := gg.freeze nF0 eF nF pF_b
          refine kk _ H' F ls g' (by omega) hok (.lst upd_same (hv.same (same_upd nF)) (by rw [List.length_map]; omega))
end
end My

namespace My
open PySem PySem.Spec PyProof.Rows L2
local macro_rules | `(tactic| walk_at "side") => `(tactic| first | (dsimp only; omega) | exact ⟨by omega, by omega⟩ | exact Or.inl ⟨by omega, by omega⟩ | exact Or.inr ⟨by omega, by omega⟩ | decide)
local macro_rules | `(tactic| walk_at "sq") => `(tactic| first | assumption | exact SqL.of (by assumption) | exact SqT.of (by assumption) | (refine L2.Same.seq (by assumption) ?_; walk_at "sq") | (refine L2.Same.seqT (by assumption) ?_; walk_at "sq") | exact Or.inl (by walk_at "sq") | exact Or.inr (by walk_at "sq"))
local macro_rules | `(tactic| walk_at "1") => `(tactic| first
  | refine ⟨_, rfl, iteT ?_⟩
  | refine ⟨_, rfl, iteF ?_⟩
  | refine ⟨_, rfl, ?_⟩
  | refine ⟨_, _, rfl, rfl, (by walk_at "side"), ?_⟩
  | refine ⟨_, _, rfl, rfl, ?_⟩
  | refine ⟨_, _, _, _, true, rfl, .ty _, .base (.int _), kit_ty (a := "int") (by decide +kernel), ?_⟩
  | refine ⟨_, _, _, _, false, rfl, .ty _, .base (.int _), kit_ty (a := "int") (by decide +kernel), ?_⟩
  | refine ⟨_, _, rfl, (by walk_at "sq"), ?_⟩
  | refine ⟨_, _, _, _, rfl, rfl, (by walk_at "sq"), (by first | rfl | assumption), ?_⟩
  | refine Or.inl ⟨_, _, _, _, rfl, rfl, (by walk_at "sq"), (by first | rfl | assumption), ?_⟩
  | refine Or.inr (Or.inl ⟨_, _, _, _, rfl, rfl, (by walk_at "sq"), (by first | rfl | assumption), ?_⟩)
  | refine ⟨_, _, rfl, Or.inl ⟨(by walk_at "sq"), ?_⟩⟩
  | refine ⟨rfl, ?_⟩
  | refine iteT ?_
  | refine iteF ?_
  | refine ⟨_, _, _, _, _, rfl, (by assumption), (by assumption), (by assumption), (by assumption), ?_⟩
  | refine Or.inl ⟨_, rfl, ?_⟩
  | refine Or.inr ⟨_, rfl, ?_⟩
  | refine ⟨_, _, rfl, (by walk_at "side"), ?_⟩
  | refine ⟨_, _, rfl, ?_⟩)
local macro_rules | `(tactic| walk_at "fld") => `(tactic| skip)
local macro_rules | `(tactic| walk_at "s") => `(tactic| repeat walk_at "1")
local macro_rules | `(tactic| walk_at "size") => `(tactic| first | exact Nat.le_of_ble_eq_true rfl | (simp only [List.length_map, List.length_append, List.length_cons, List.length_nil]; omega))
local macro_rules | `(tactic| walk_at "new") => `(tactic| (first | refine ⟨(by walk_at "size"), fun p hp => ?_⟩ | refine fun p hp => ?_); (generalize hq : upd _ p _ = H1); (obtain ⟨s, e⟩ := new_facts hp hq); clear hq)
/-! ## the dict of a module -/
theorem vput_same {kvs : List (Key × V)} {k : Key} {v : V} : valV (putK kvs k v) k = some v := by rw [valV_put, if_pos rfl]
theorem vput_ne {kvs : List (Key × V)} {k j : Key} {v : V} (h : j ≠ k) : valV (putK kvs k v) j = valV kvs j := by rw [valV_put, if_neg h]
theorem put_len {kvs : List (Key × V)} {k : Key} {v : V} {n : Nat} (h : kvs.length ≤ n) : (putK kvs k v).length ≤ n + 1 := Nat.le_trans (length_putK kvs k v) (by omega)
theorem key_ne {x y : Str} (h : x ≠ y) : (kS x : Key) ≠ kS y := fun q => h (Sum.inr.inj q)
/-- modules one by one -/
inductive MAll (G : Hp) : List V → List DM → Prop
  | nil : MAll G [] []
  | cons {v : V} {m : DM} {vs : List V} {ms : List DM} (h : ModF G v m) (t : MAll G vs ms) : MAll G (v :: vs) (m :: ms)
theorem MAll.same {G G' : Hp} (s : Same G G') : ∀ {vs : List V} {ms : List DM}, MAll G vs ms → MAll G' vs ms
  | _, _, .nil => .nil
  | _, _, .cons h t => .cons (h.same s) (MAll.same s t)
theorem MAll.len {G : Hp} : ∀ {vs : List V} {ms : List DM}, MAll G vs ms → vs.length = ms.length
  | _, _, .nil => rfl
  | _, _, .cons _ t => by rw [List.length_cons, List.length_cons, MAll.len t]
theorem MAll.mem {G : Hp} : ∀ {vs : List V} {ms : List DM}, MAll G vs ms → ∀ v ∈ vs, ∃ m ∈ ms, ModF G v m
  | _, _, .nil, v, h => nomatch h
  | _, _, .cons h t, v, hv => by
    rcases List.mem_cons.mp hv with rfl | hv
    · exact ⟨_, List.mem_cons_self .., h⟩
    · obtain ⟨m, hm, q⟩ := MAll.mem t v hv
      exact ⟨m, List.mem_cons_of_mem _ hm, q⟩
theorem MAll.get {G : Hp} : ∀ {vs : List V} {ms : List DM}, MAll G vs ms → ∀ {i : Nat} {v : V}, vs[i]? = some v → ∃ m, ms[i]? = some m ∧ ModF G v m
  | _, _, .nil, i, v, h => by cases i <;> cases h
  | _, _, .cons h t, 0, v, e => by
    cases e
    exact ⟨_, rfl, h⟩
  | _, _, .cons h t, i + 1, v, e => MAll.get t (i := i) e
theorem MAll.app {G : Hp} : ∀ {vs ws : List V} {ms ns : List DM}, MAll G vs ms → MAll G ws ns → MAll G (vs ++ ws) (ms ++ ns)
  | _, _, _, _, .nil, h => h
  | _, _, _, _, .cons h t, g => .cons h (MAll.app t g)
def zipK : List V → List DM → List (Key × V)
  | v :: vs, m :: ms => (kS m.name, v) :: zipK vs ms
  | _, _ => []
theorem merge_other : ∀ (vs : List V) (ms : List DM) (acc : List (Key × V)) (n : Str), (∀ m ∈ ms, m.name ≠ n) → valV (mergeK acc (zipK vs ms)) (kS n) = valV acc (kS n)
  | [], ms, acc, n, _ => by cases ms <;> rfl
  | v :: vs, [], acc, n, _ => rfl
  | v :: vs, m :: ms, acc, n, h => by
    show valV (mergeK (putK acc (kS m.name) v) (zipK vs ms)) (kS n) = _
    rw [merge_other vs ms _ n fun m' hm => h m' (List.mem_cons_of_mem _ hm), vput_ne (key_ne (Ne.symm (h m (List.mem_cons_self ..))))]
theorem merge_val {G : Hp} : ∀ {vs : List V} {ms : List DM}, MAll G vs ms → (ms.map (·.name)).Nodup → ∀ (acc : List (Key × V)) (n : Str) (m : DM), findM ms n = some m → ∃ v, valV (mergeK acc (zipK vs ms)) (kS n) = some v ∧ ModF G v m
  | _, _, .nil, _, acc, n, m, h => nomatch h
  | v :: vs, m' :: ms, .cons hm t, nd, acc, n, m, h => by
    rw [List.map_cons, List.nodup_cons] at nd
    show ∃ v', valV (mergeK (putK acc (kS m'.name) v) (zipK vs ms)) (kS n) = some v' ∧ ModF G v' m
    by_cases e : m'.name = n
    · subst e
      have : findM (m' :: ms) m'.name = some m' := by
        unfold findM
        rw [List.find?_cons, decide_eq_true rfl]
      rw [this] at h
      cases h
      refine ⟨v, ?_, hm⟩
      rw [merge_other vs ms _ _ fun m2 h2 q => nd.1 (List.mem_map.mpr ⟨m2, h2, q⟩), vput_same]
    · have : findM (m' :: ms) n = findM ms n := by
        unfold findM
        rw [List.find?_cons, decide_eq_false e]
      rw [this] at h
      exact merge_val t nd.2 _ n m h
theorem findM_some {ms : List DM} {m : DM} (h : m ∈ ms) : ∃ m', findM ms m.name = some m' := by
  unfold findM
  cases e : ms.find? fun m' => decide (m'.name = m.name) with
  | none =>
    have := List.find?_eq_none.mp e m h
    exact absurd (decide_eq_true rfl) this
  | some m' => exact ⟨m', rfl⟩
theorem zipK_get : ∀ {ws : List V} {ms : List DM} {j : Nat} {v : V} {m : DM}, ws[j]? = some v → ms[j]? = some m → (zipK ws ms)[j]? = some (kS m.name, v)
  | [], _, j, v, m, h, _ => by cases j <;> cases h
  | _ :: _, [], j, v, m, _, h => by cases j <;> cases h
  | w :: ws, k :: ms, 0, v, m, h, g => by
    cases h
    cases g
    rfl
  | w :: ws, k :: ms, j + 1, v, m, h, g => zipK_get (ws := ws) (ms := ms) (j := j) h g
theorem zipK_len : ∀ {ws : List V} {ms : List DM}, ws.length = ms.length → (zipK ws ms).length = ws.length
  | [], [], _ => rfl
  | [], _ :: _, h => nomatch h
  | _ :: _, [], h => nomatch h
  | w :: ws, k :: ms, h => by
    show (zipK ws ms).length + 1 = ws.length + 1
    rw [zipK_len (by simpa using h)]
theorem cut4 (ns : List Str) (i o s : Nat) : ns.take i ++ ((ns.drop i).take o ++ ((ns.drop (i + o)).take s ++ ns.drop (i + o + s))) = ns := by
  rw [show ns.drop (i + o + s) = (ns.drop (i + o)).drop s by rw [List.drop_drop], List.take_append_drop, show ns.drop (i + o) = (ns.drop i).drop o by rw [List.drop_drop], List.take_append_drop, List.take_append_drop]
def spModule : Sp := fun vs H Q _ => ∃ (b sz cl : Addr) (n : Str) (G : Hp) (i o s c : Nat) (ws : List V) (ms : List DM), vs = [.ref b, .str n, .ref sz, .ref cl] ∧ Same G H ∧ BoxAt H b ∧ G b = none ∧ H sz = some (.tup [.int (i : Nat), .int (o : Nat), .int (s : Nat), .int (c : Nat)]) ∧ cl ≠ b ∧ H cl = some (.lst ws) ∧ MAll G ws ms ∧
  i ≤ 2 ∧ 1 ≤ o ∧ o ≤ 2 ∧ 1 ≤ s ∧ s ≤ 2 ∧ c ≤ 2 ∧ (ms = [] → c = 0) ∧ ms.length ≤ 3 ∧ (ms.map (·.name)).Nodup ∧ (∀ m' ∈ ms, DMBase m') ∧ n ∈ modNames ∧
  ∀ (G' H' : Hp) (v : V) (m : DM), Go b G H G' H' → DMOk ms m → m.name = n → ModF G' v m → Q v H'
section
variable {P : Program} {w : World} {K : PySem.W.Frag} {mg : Str → Option Value} {base : Heap}
abbrev s_law_module : Stmt := topS 42
theorem sc_law_module : FnScope ["box", "name", "sizes", "called", "inlets", "outlets", "stations", "many", "names", "found", "labels", "known", "label", "one"] ["box", "name", "sizes", "called"] (defScope s_law_module) := ⟨rfl, rfl, rfl, by decide +kernel, rfl, by decide +kernel, by decide +kernel⟩
set_option maxHeartbeats 16000000 in
theorem ok_module (D : Df K mg "_law_module" s_law_module ["box", "name", "sizes", "called"]) (T : Txt mg) (o_law_names : Own P w K mg base "_law_names" 3 ["box", "many"] spNames) (o_law_pick : Own P w K mg base "_law_pick" 2 ["box", "items"] spPick)
    (o_law_links : Own P w K mg base "_law_links" 3 ["box", "module", "known"] spLinks) : Own P w K mg base "_law_module" 4 ["box", "name", "sizes", "called"] spModule := by
  refine D.own sc_law_module (fun vs H Q E h => ?_) (fun f cdv A outer s H vs Q E hr h => ?_)
  · obtain ⟨_, _, _, _, _, _, _, _, _, _, _, rfl, _⟩ := h
    rfl
  · obtain ⟨b, sz, cl, n, G, i, o, st, c, ws, ms, rfl, sG, hb, Gb, hsz, clb, hcl, hM, hi, ho1, ho2, hs1, hs2, hc, hc0, hms, hnd, hB, hn, kk⟩ := h
    have hu := hu_of hr
    refine ⟨_, (pss_cons (ps_asg (pv 2) (pg_tup (by rfl) (pgs_cons (pg_name (i := 4) sc_law_module.nd rfl (Or.inl rfl)) (pgs_cons (pg_name (i := 5) sc_law_module.nd rfl (Or.inl rfl)) (pgs_cons (pg_name (i := 6) sc_law_module.nd rfl (Or.inl rfl)) (pgs_cons (pg_name (i := 7) sc_law_module.nd rfl (Or.inl rfl)) pgs_nil))))))
  (pss_cons (ps_set (i := 8) sc_law_module.nd rfl (Or.inl rfl) (pe_own o_law_names (hr.mono (by decide)) (pa_cons (pv 0) (pa_cons (pe_op op_add (pe_op op_add (pe_op op_add (pv 4) (pv 5)) (pv 6)) (pv 7)) pa_nil))))
  (pss_cons (ps_set (i := 9) sc_law_module.nd rfl (Or.inl rfl) (pe_disp (pps_cons pe_str (pv 1) (pps_cons pe_str (pe_slice sl_list (pv 8) po_none (po_some (pv 4))) (pps_cons pe_str (pe_slice sl_list (pv 8) (po_some (pv 4)) (po_some (pe_op op_add (pv 4) (pv 5)))) pps_nil))) (by rfl) (by rfl) (by simp) (by decide)))
  (pss_cons (ps_dput hu (pv 9) pe_str (pe_slice sl_list (pv 8) (po_some (pe_op op_add (pv 4) (pv 5))) (po_some (pe_op op_add (pe_op op_add (pv 4) (pv 5)) (pv 6)))) rfl)
  (C8.pss_cut (ps_set (i := 10) sc_law_module.nd rfl (Or.inl rfl) (pe_ifExp (pt_cmpR (op_neN hr.units) (pv 3) (pe_lst pa_nil) (nomark _)) (pe_slice sl_list (pv 8) (po_some (pe_op op_add (pe_op op_add (pv 4) (pv 5)) (pv 6))) po_none) (pe_lst pa_nil)))
  (pss_cons (ps_dput hu (pv 9) pe_str (pe_lc (own := [("label", 12)]) (g := gName 12) (tt := tYes) rfl sc_law_module.nd (pi_list (pv 10)) (blkOk_by (own := [("label", 12)]) (N := ["box", "name", "sizes", "called", "inlets", "outlets", "stations", "many", "names", "found", "labels", "known", "label", "one"]) (sc := defScope s_law_module) (by decide +kernel)) (fun _ _ _ _ _ => (pg_name (i := 12) sc_law_module.nd rfl (Or.inl rfl))) (fun _ _ _ _ _ => pts_nil) (fun _ _ _ _ _ => (pe_tup (pa_cons (pv 12) (pa_cons (pe_dget hu (pe_own o_law_pick (hr.mono (by decide)) (pa_cons (pv 0) (pa_cons (pv 3) pa_nil))) pe_str (fun _ _ => rfl)) pa_nil))))) rfl)
  (pss_cons (ps_set (i := 11) sc_law_module.nd rfl (Or.inl rfl) (pe_callTy (call_dictP (by rfl)) (by rfl) T.dict (by decide +kernel) (pa_cons (pe_lc (own := [("one", 13)]) (g := gName 13) (tt := tYes) rfl sc_law_module.nd (pi_list (pv 3)) (blkOk_by (own := [("one", 13)]) (N := ["box", "name", "sizes", "called", "inlets", "outlets", "stations", "many", "names", "found", "labels", "known", "label", "one"]) (sc := defScope s_law_module) (by decide +kernel)) (fun _ _ _ _ _ => (pg_name (i := 13) sc_law_module.nd rfl (Or.inl rfl))) (fun _ _ _ _ _ => pts_nil) (fun _ _ _ _ _ => (pe_tup (pa_cons (pe_dget hu (pv 13) pe_str (fun _ _ => rfl)) (pa_cons (pv 13) pa_nil))))) pa_nil)))
  (pss_cons (ps_dput hu (pv 9) pe_str (pe_own o_law_links (hr.mono (by decide)) (pa_cons (pv 0) (pa_cons (pv 9) (pa_cons (pv 11) pa_nil)))) rfl)
  (pss_one (ps_ret (pv 9))))))))))), ?_⟩
    have big : ∀ {n : Nat}, n ≤ 40000 → n ≤ sizeLine := fun h => Nat.le_trans h (by decide)
    refine ⟨_, rfl, sz, _, rfl, SqT.of hsz, rfl, _, _, rfl, _, _, rfl, _, _, rfl, _, _, rfl, rfl, ?_⟩
    refine ⟨_, rfl, _, rfl, _, rfl, _, _, rfl, rfl, _, rfl, _, _, rfl, rfl, _, rfl, _, _, rfl, rfl, b, i + o + st + c, (by show [V.ref b, V.int ((i : Int) + o + st + c)] = [V.ref b, V.int ((i + o + st + c : Nat) : Int)]; rw [show ((i : Int) + o + st + c) = ((i + o + st + c : Nat) : Int) by omega]), hb, by omega, fun H1 N ns nsN nsA nsL bx1 box1 nN eN => ?_⟩
    have Nb : N ≠ b := hb.ne nN
    have g1 : Go b G H G H1 := (Go.refl sG hb Gb).take bx1 box1
    obtain ⟨G1, hG1⟩ : ∃ G1, G1 = upd G N (.lst (ns.map V.str)) := ⟨_, rfl⟩
    have g1 : Go b G H G1 H1 := by
      rw [hG1]
      exact g1.freeze nN eN (g1.gs.free (sG.free nN) |> fun _ => sG.free nN) Nb
    have gN : G1 N = some (.lst (ns.map V.str)) := by rw [hG1, upd_same]
    have sG1 : Same G G1 := by
      rw [hG1]
      exact same_upd (sG.free nN)
    have ecl1 : H1 cl = some (.lst ws) := bx1 _ _ clb hcl
    have hnl : (ns.map V.str).length = i + o + st + c := by rw [List.length_map, nsL]
    have lle : ns.length ≤ 8 := by omega
    clear hG1 eN bx1 box1
    -- the dict
    refine fun d nd => ?_
    generalize hq : upd H1 d _ = H2
    obtain ⟨s2, e2⟩ := new_facts nd hq
    clear hq
    have nd0 : H d = none := g1.free0 nd
    have dGd : G1 d = none := g1.freeG nd
    have db : d ≠ b := g1.ne nd
    have g2 := g1.same s2
    have ecl2 := s2 _ _ ecl1
    have dcl : cl ≠ d := ne_of_none ecl1 nd
    clear g1 s2 nd
    refine ⟨_, rfl, _, rfl, _, rfl, _, rfl, N, _, rfl, SqL.of (g2.gh _ _ gN), fun A1 n1 => ?_⟩
    generalize hq : upd H2 A1 _ = H3
    obtain ⟨G2, g3, sG2, s3, r1, nn⟩ := g2.laid n1 hq
    clear hq
    rw [cut_to, ← List.map_take] at r1
    have dGd := nn d dGd (ne_of_none e2 n1)
    have e2 := s3 _ _ e2
    have ecl2 := s3 _ _ ecl2
    have gN := sG2 _ _ gN
    have sG1 := sG1.trans sG2
    clear g2 n1 s3 sG2 nn
    refine ⟨_, rfl, _, rfl, _, rfl, _, rfl, _, rfl, _, _, rfl, rfl, _, rfl, N, _, rfl, SqL.of (g3.gh _ _ gN), fun A2 n2 => ?_⟩
    generalize hq : upd H3 A2 _ = H4
    obtain ⟨G3, g4, sG3, s4, r2, nn⟩ := g3.laid n2 hq
    clear hq
    rw [show ((i : Int) + (o : Int)) = ((i + o : Nat) : Int) by omega, cut_mid (by omega) (by omega), ← List.map_drop, ← List.map_take, Nat.add_sub_cancel_left] at r2
    have dGd := nn d dGd (ne_of_none e2 n2)
    have e2 := s4 _ _ e2
    have ecl2 := s4 _ _ ecl2
    have gN := sG3 _ _ gN
    have sG1 := sG1.trans sG3
    have r1 := sG3 _ _ r1
    clear g3 n2 s4 sG3 nn
    refine ⟨e2, [(kS "name", .str n), (kS "inlets", .ref A1), (kS "outlets", .ref A2)], rfl, by show 3 ≤ 15; decide, ?_⟩
    generalize hK3 : mergeK [] [((kS "name" : Key), V.str n), (kS "inlets", V.ref A1), (kS "outlets", V.ref A2)] = K3
    have k3n : valV K3 (kS "name") = some (.str n) := by
      rw [← hK3]
      show valV (putK (putK (putK [] (kS "name") (.str n)) (kS "inlets") (.ref A1)) (kS "outlets") (.ref A2)) _ = _
      rw [vput_ne (key_ne (by decide)), vput_ne (key_ne (by decide)), vput_same]
    have k3i : valV K3 (kS "inlets") = some (.ref A1) := by
      rw [← hK3]
      show valV (putK (putK (putK [] (kS "name") (.str n)) (kS "inlets") (.ref A1)) (kS "outlets") (.ref A2)) _ = _
      rw [vput_ne (key_ne (by decide)), vput_same]
    have k3o : valV K3 (kS "outlets") = some (.ref A2) := by
      rw [← hK3]
      show valV (putK (putK (putK [] (kS "name") (.str n)) (kS "inlets") (.ref A1)) (kS "outlets") (.ref A2)) _ = _
      rw [vput_same]
    have k3l : K3.length ≤ 3 := by
      rw [← hK3]
      exact length_mergeK _ []
    clear hK3
    have g5 := g4.change (o := .dK K3) nd0 dGd db
    have e5 : (upd H4 d (.dK K3)) d = some (.dK K3) := upd_same
    have ecl5 : (upd H4 d (.dK K3)) cl = some (.lst ws) := by rw [upd_ne dcl]; exact ecl2
    generalize upd H4 d (.dK K3) = H5 at g5 e5 ecl5 ⊢
    clear g4 e2 ecl2
    -- stations
    refine ⟨_, rfl, _, rfl, _, rfl, _, _, rfl, rfl, _, rfl, _, rfl, _, rfl, _, _, rfl, rfl, _, rfl, _, _, rfl, rfl, _, rfl, N, _, rfl, SqL.of (g5.gh _ _ gN), fun A3 n3 => ?_⟩
    generalize hq : upd H5 A3 _ = H6
    obtain ⟨G4, g6, sG4, s6, r3, nn⟩ := g5.laid n3 hq
    clear hq
    rw [show ((i : Int) + (o : Int)) = ((i + o : Nat) : Int) by omega, show (((i + o : Nat) : Int) + (st : Int)) = ((i + o + st : Nat) : Int) by omega, cut_mid (by omega) (by omega), ← List.map_drop, ← List.map_take, Nat.add_sub_cancel_left] at r3
    have dGd := nn d dGd (ne_of_none e5 n3)
    have e5 := s6 _ _ e5
    have ecl5 := s6 _ _ ecl5
    have gN := sG4 _ _ gN
    have sG1 := sG1.trans sG4
    have r1 := sG4 _ _ r1
    have r2 := sG4 _ _ r2
    clear g5 n3 s6 sG4 nn
    refine ⟨_, rfl, d, _, rfl, DPut.k (k := kS "stations") e5 (Nat.lt_of_le_of_lt k3l (by decide)), ?_⟩
    have k4n := (vput_ne (kvs := K3) (v := .ref A3) (key_ne (x := "name") (y := "stations") (by decide))).trans k3n
    have k4i := (vput_ne (kvs := K3) (v := .ref A3) (key_ne (x := "inlets") (y := "stations") (by decide))).trans k3i
    have k4o := (vput_ne (kvs := K3) (v := .ref A3) (key_ne (x := "outlets") (y := "stations") (by decide))).trans k3o
    have k4s := vput_same (kvs := K3) (k := kS "stations") (v := .ref A3)
    have k4l := put_len (k := kS "stations") (v := .ref A3) k3l
    generalize putK K3 (kS "stations") (.ref A3) = K4 at k4n k4i k4o k4s k4l ⊢
    clear k3n k3i k3o k3l
    have g7 := g6.change (o := .dK K4) nd0 dGd db
    have e7 : (upd H6 d (.dK K4)) d = some (.dK K4) := upd_same
    have ecl7 : (upd H6 d (.dK K4)) cl = some (.lst ws) := by rw [upd_ne dcl]; exact ecl5
    generalize upd H6 d (.dK K4) = H7 at g7 e7 ecl7 ⊢
    clear g6 e5 ecl5
    -- labels
    have hM4 : MAll G4 ws ms := hM.same sG1
    obtain ⟨lbs, hlbs⟩ : ∃ lbs, lbs = ns.drop (i + o + st) := ⟨_, rfl⟩
    have lbl : lbs.length = c := by rw [hlbs, List.length_drop]; omega
    refine ⟨fun σ' H' => ∃ (G5 : Hp) (Lb : Addr), σ' = [some (.ref b), some (.str n), some (.ref sz), some (.ref cl), some (.int (i : Nat)), some (.int (o : Nat)), some (.int (st : Nat)), some (.int (c : Nat)), some (.ref N), some (.ref d), some (.ref Lb), none, none, none] ∧
      Go b G H G5 H' ∧ Same G4 G5 ∧ G5 d = none ∧ G5 Lb = some (.lst (lbs.map V.str)) ∧ H' d = some (.dK K4) ∧ H' cl = some (.lst ws), ?_, ?_⟩
    · refine ⟨_, rfl, Nat.zero_le _, fun r nr => ?_⟩
      generalize hq : upd H7 r _ = H8
      obtain ⟨s8, e8⟩ := new_facts nr hq
      clear hq
      have g8 := g7.same s8
      have e7 := s8 _ _ e7
      have ecl7 := s8 _ _ ecl7
      refine ⟨cl, r, ws, rfl, rfl, SqL.of ecl7, SqL.of e8, _, rfl, ?_⟩
      clear s8 e8 nr g7
      cases hz : ws.isEmpty with
      | true =>
        have ms0 : ms = [] := by
          have : ws = [] := List.isEmpty_iff.mp hz
          rw [this] at hM
          cases hM
          rfl
        have lb0 : lbs = [] := List.eq_nil_of_length_eq_zero (by rw [lbl]; exact hc0 ms0)
        refine iteF ?_
        refine ⟨Nat.zero_le _, fun Lb nL => ?_⟩
        generalize hq : upd H8 Lb _ = H9
        obtain ⟨G5, g9, sG5, s9, r5, nn⟩ := g8.laid nL hq
        exact ⟨G5, Lb, rfl, g9, sG5, nn d dGd (ne_of_none e7 nL), by rw [r5, lb0]; rfl, s9 _ _ e7, s9 _ _ ecl7⟩
      | false =>
        refine iteT ?_
        refine ⟨_, rfl, _, rfl, _, rfl, _, _, rfl, rfl, _, rfl, _, _, rfl, rfl, _, rfl, N, _, rfl, SqL.of (g8.gh _ _ gN), fun Lb nL => ?_⟩
        generalize hq : upd H8 Lb _ = H9
        obtain ⟨G5, g9, sG5, s9, r5, nn⟩ := g8.laid nL hq
        rw [show ((i : Int) + (o : Int)) = ((i + o : Nat) : Int) by omega, show (((i + o : Nat) : Int) + (st : Int)) = ((i + o + st : Nat) : Int) by omega, cut_from, ← List.map_drop, ← hlbs] at r5
        exact ⟨G5, Lb, rfl, g9, sG5, nn d dGd (ne_of_none e7 nL), r5, s9 _ _ e7, s9 _ _ ecl7⟩
    · rintro σ' H' ⟨G5, Lb, rfl, g5, sG5, dGd, gLb, ed, ecl⟩
      have r1 := sG5 _ _ r1
      have r2 := sG5 _ _ r2
      have r3 := sG5 _ _ r3
      have hM5 := hM4.same sG5
      clear hM4 sG5 gN sG1 g7 e7 ecl7
      have nsS : ∀ x ∈ ns, nameS x = true := fun x hx => namesAll_name x (nsA x hx)
      have lbS : ∀ x ∈ lbs, nameS x = true := fun x hx => nsS x (by rw [hlbs] at hx; exact List.mem_of_mem_drop hx)
      -- calls
      refine ⟨_, rfl, Lb, rfl, ⟨_, SqL.of (g5.gh _ _ gLb)⟩, fun L nL => ?_⟩
      have dL : d ≠ L := ne_of_none ed nL
      have clL : cl ≠ L := ne_of_none ecl nL
      have Lb_ : L ≠ b := g5.ne nL
      have nL0 : H L = none := g5.free0 nL
      refine lc_seq (H0 := G5) (seqIt_l (SqL.of gLb)) (fun j H2 => ∃ (Gj : Hp) (vs : List V) (cs : List (Str × Str)), Go b G H Gj H2 ∧ Same G5 Gj ∧ Gj d = none ∧ Gj L = none ∧ H2 d = some (.dK K4) ∧ H2 cl = some (.lst ws) ∧ H2 L = some (.lst vs) ∧ DvAll Gj vs (cs.map callD) ∧ cs.map (·.1) = lbs.take j ∧ (∀ c ∈ cs, ∃ m', findM ms c.2 = some m')) ?_ ?_ ?_ ?_
      · have gL := g5.freeG nL
        refine ⟨G5, [], [], g5.same (same_upd nL), Same.refl _, dGd, gL, by rw [upd_ne dL]; exact ed, by rw [upd_ne clL]; exact ecl, upd_same, .nil, rfl, fun c hc => nomatch hc⟩
      · rintro j H2 ⟨Gj, vs, cs, gj, sj, _⟩
        exact sj.trans gj.gh
      · rintro j x H2 hx ⟨Gj, vs, cs, gj, sj, djn, Ljn, ed2, ecl2, eL2, hv, hcs, hcm⟩
        rw [List.getElem?_map] at hx
        obtain ⟨l, hl, rfl⟩ := Option.map_eq_some_iff.mp hx
        have hj : j < lbs.length := (List.getElem?_eq_some_iff.mp hl).1
        have cpos : 0 < ws.length := by
          rw [hM.len]
          cases hms0 : ms with
          | nil =>
            have := hc0 hms0
            omega
          | cons a l => exact Nat.succ_pos _
        refine ⟨rfl, _, rfl, _, rfl, _, rfl, b, cl, ws, rfl, gj.box, clb, ecl2, cpos, by rw [hM.len]; omega, fun H3 y hy bx3 box3 => ?_⟩
        obtain ⟨m', hm', hF⟩ := (hM5.same sj).mem y hy
        have g3 := gj.take bx3 box3
        obtain ⟨dd, kvs, a1, a2, a3, a4, a5, rfl, edd, w0, _⟩ := hF
        refine ⟨dd, _, rfl, dget_s (g3.gh _ _ edd) w0, ?_⟩
        refine ⟨Nat.le_of_ble_eq_true rfl, fun t nt => ?_⟩
        have eL3 := bx3 _ _ Lb_ eL2
        have ed3 := bx3 _ _ db ed2
        have ecl3 := bx3 _ _ clb ecl2
        have tL : L ≠ t := ne_of_none eL3 nt
        have td : d ≠ t := ne_of_none ed3 nt
        have tcl : cl ≠ t := ne_of_none ecl3 nt
        generalize hq : upd H3 t _ = H4
        obtain ⟨G6, g6, sG6, s4, r6, nn⟩ := g3.laid nt hq
        clear hq
        have okl : okS l = true := okS_name (lbS l (List.mem_of_getElem? hl))
        have okm : okS m'.name = true := okS_name (show nameS m'.name = true from (by decide +kernel : ∀ x ∈ modNames, nameS x = true) _ (hB m' hm').name)
        have dvt : Dv G6 (.ref t) (callD (l, m'.name)) := .tup r6 (.cons (.str okl) (.cons (.str okm) .nil)) (by show 2 ≤ 2000; decide)
        have G6L := nn L Ljn tL
        refine ⟨vs, s4 _ _ eL3, small1000_2 (by have := hv.len; rw [List.length_map] at this; have h2 := congrArg List.length hcs; rw [List.length_map, List.length_take] at h2; omega), G6, vs ++ [.ref t], cs ++ [(l, m'.name)], g6.change nL0 G6L Lb_, sj.trans sG6, nn d djn td, G6L, by rw [upd_ne dL]; exact s4 _ _ ed3, by rw [upd_ne clL]; exact s4 _ _ ecl3, upd_same, ?_, ?_, ?_⟩
        · rw [List.map_append]
          exact (hv.same sG6).app (.cons dvt .nil)
        · rw [List.map_append, hcs, List.take_add_one, hl]
          rfl
        · intro c hc
          rcases List.mem_append.mp hc with hc | hc
          · exact hcm c hc
          · rw [List.mem_singleton.mp hc]
            exact findM_some hm'
      · rintro H2 ⟨Gj, vs, cs, gj, sj, djn, Ljn, ed2, ecl2, eL2, hv, hcs, hcm⟩
        rw [List.length_map, List.take_length] at hcs
        have g6 := gj.freeze nL0 eL2 Ljn Lb_
        have sG6 : Same G5 (upd Gj L (.lst vs)) := sj.trans (same_upd Ljn)
        have dG6 : (upd Gj L (.lst vs)) d = none := by rw [upd_ne dL]; exact djn
        have lcs : cs.length ≤ 2 := by
          have := congrArg List.length hcs
          rw [List.length_map] at this
          omega
        have dvc : Dv (upd Gj L (.lst vs)) (.ref L) (.list (cs.map callD)) := .lst upd_same (hv.same (same_upd Ljn)) (by rw [List.length_map]; omega)
        generalize upd Gj L (.lst vs) = G6 at g6 sG6 dG6 dvc
        have r1 := sG6 _ _ r1
        have r2 := sG6 _ _ r2
        have r3 := sG6 _ _ r3
        have hM6 := hM5.same sG6
        clear gj sj djn Ljn hv hM5 g5 gLb sG6 eL2 ed ecl dGd
        refine ⟨_, rfl, d, _, rfl, DPut.k (k := kS "calls") ed2 (Nat.lt_of_le_of_lt k4l (by decide)), ?_⟩
        have k5n := (vput_ne (kvs := K4) (v := .ref L) (key_ne (x := "name") (y := "calls") (by decide))).trans k4n
        have k5i := (vput_ne (kvs := K4) (v := .ref L) (key_ne (x := "inlets") (y := "calls") (by decide))).trans k4i
        have k5o := (vput_ne (kvs := K4) (v := .ref L) (key_ne (x := "outlets") (y := "calls") (by decide))).trans k4o
        have k5s := (vput_ne (kvs := K4) (v := .ref L) (key_ne (x := "stations") (y := "calls") (by decide))).trans k4s
        have k5c := vput_same (kvs := K4) (k := kS "calls") (v := .ref L)
        have k5l := put_len (k := kS "calls") (v := .ref L) k4l
        generalize putK K4 (kS "calls") (.ref L) = K5 at k5n k5i k5o k5s k5c k5l ⊢
        clear k4n k4i k4o k4s k4l
        have g7 := g6.change (o := .dK K5) nd0 dG6 db
        have e7 : (upd H2 d (.dK K5)) d = some (.dK K5) := upd_same
        have ecl7 : (upd H2 d (.dK K5)) cl = some (.lst ws) := by rw [upd_ne dcl]; exact ecl2
        generalize upd H2 d (.dK K5) = H7 at g7 e7 ecl7 ⊢
        clear g6 ed2 ecl2
        -- known
        refine ⟨_, rfl, cl, rfl, ⟨_, SqL.of ecl7⟩, fun L2 nL2 => ?_⟩
        refine lc_seq (H0 := H7) (seqIt_l (SqL.of ecl7)) (fun j H8 => Same H7 H8 ∧ ∃ ps : List Addr, H8 L2 = some (.lst (ps.map V.ref)) ∧ Paired (fun p (kv : Key × V) => SqT K H8 p [kV kv.1, kv.2]) ps ((zipK ws ms).take j)) ⟨same_upd nL2, [], upd_same, .nil⟩ (fun j H q => q.1) ?_ ?_
        · rintro j x H8 hx ⟨s8, ps, eL8, hp⟩
          obtain ⟨m', hm', hF⟩ := hM6.get hx
          have hj : j < ws.length := (List.getElem?_eq_some_iff.mp hx).1
          obtain ⟨dd, kvs, a1, a2, a3, a4, a5, rfl, edd, w0, _⟩ := hF
          refine ⟨rfl, _, rfl, dd, _, rfl, dget_s (s8 _ _ (g7.gh _ _ edd)) w0, _, rfl, Nat.le_of_ble_eq_true rfl, fun t nt => ?_⟩
          have pl := Paired.length hp
          have tL : L2 ≠ t := ne_of_none eL8 nt
          have nL8 : H7 L2 = none := nL2
          generalize hq : upd H8 t _ = H9
          obtain ⟨s9, e9⟩ := new_facts nt hq
          clear hq
          have sN : Same H9 (upd H9 L2 (.lst (ps.map V.ref ++ [.ref t]))) → True := fun _ => trivial
          refine ⟨_, s9 _ _ eL8, small1000_2 (by rw [List.length_map, pl, List.length_take]; rw [hM.len] at hj; omega), (s8.trans s9).upd1 nL2, ps ++ [t], by rw [upd_same, List.map_append]; rfl, ?_⟩
          rw [List.take_add_one, zipK_get hx hm']
          have keep : ∀ (p : Addr) (xs : List V), p ≠ L2 → SqT K H8 p xs → SqT K (upd H9 L2 (.lst (ps.map V.ref ++ [.ref t]))) p xs := fun p xs hne h => by
            rcases h with (h | ⟨o, h⟩) | h
            · exact .inl (.inl (by rw [upd_ne hne]; exact s9 _ _ h))
            · exact .inl (.inr ⟨o, by rw [upd_ne hne]; exact s9 _ _ h⟩)
            · exact .inr h
          refine Paired.snoc (_root_.L2.Paired.mapP hp fun p kv h => ?_) ?_
          · by_cases hne : p = L2
            · subst hne
              rcases h with (h | ⟨o, h⟩) | h
              · rw [eL8] at h
                cases h
              · rw [eL8] at h
                cases h
              · exact .inr h
            · exact keep p _ hne h
          · exact SqT.of (by rw [upd_ne tL.symm]; exact e9)
        · rintro H8 ⟨s8, ps, eL8, hp⟩
          rw [List.take_of_length_le (by rw [zipK_len hM.len]; exact Nat.le_refl _)] at hp
          refine ⟨L2, ps, zipK ws ms, rfl, SqL.of eL8, hp, fun kn nk => ?_⟩
          have g8 := g7.same s8
          have e8 := s8 _ _ e7
          generalize hq : upd H8 kn _ = H9
          obtain ⟨G7, g9, sG7, s9, rk, nn⟩ := g8.laid nk hq
          clear hq
          have d7 := nn d dG6 (ne_of_none e8 nk)
          have e9 := s9 _ _ e8
          have hM7 := hM6.same sG7
          have r1 := sG7 _ _ r1
          have r2 := sG7 _ _ r2
          have r3 := sG7 _ _ r3
          have dvc := dvc.same sG7
          have hKn : Known G7 kn ms := ⟨_, rk, fun n' m' q => merge_val hM7 hnd [] n' m' q⟩
          clear g7 g8 e7 e8 s8 s9 nk nn sG7 hM6 dG6 ecl7 eL8 hp nL2 rk
          obtain ⟨m0, hm0⟩ : ∃ m0 : DM, m0 = ⟨n, ns.take i, (ns.drop i).take o, (ns.drop (i + o)).take st, cs, []⟩ := ⟨_, rfl⟩
          have nm0 : namesOf m0 = ns := by
            rw [hm0]
            show ns.take i ++ ((ns.drop i).take o ++ ((ns.drop (i + o)).take st ++ cs.map (·.1))) = ns
            rw [hcs, hlbs, cut4]
          have B0 : DMBase m0 := {
            nd := by rw [nm0]; exact nsN
            nm := by rw [nm0]; exact nsA
            name := by rw [hm0]; exact hn
            inl := by rw [hm0]; show (ns.take i).length ≤ 2; rw [List.length_take]; omega
            out0 := by rw [hm0]; show 1 ≤ ((ns.drop i).take o).length; rw [List.length_take, List.length_drop]; omega
            out := by rw [hm0]; show ((ns.drop i).take o).length ≤ 2; rw [List.length_take, List.length_drop]; omega
            sta0 := by rw [hm0]; show 1 ≤ ((ns.drop (i + o)).take st).length; rw [List.length_take, List.length_drop]; omega
            sta := by rw [hm0]; show ((ns.drop (i + o)).take st).length ≤ 2; rw [List.length_take, List.length_drop]; omega
            few := by rw [hm0]; exact lcs }
          have nsO : ∀ x ∈ ns, okS x = true := fun x hx => okS_name (nsS x hx)
          have D1 : Dv G7 (.ref A1) (strL m0.inl) := by
            rw [hm0]
            exact Dv.ofStrs r1 (fun x hx => nsO x (List.mem_of_mem_take hx)) (by rw [List.length_take]; omega)
          have D2 : Dv G7 (.ref A2) (strL m0.out) := by
            rw [hm0]
            exact Dv.ofStrs r2 (fun x hx => nsO x (List.mem_of_mem_drop (List.mem_of_mem_take hx))) (by rw [List.length_take, List.length_drop]; omega)
          have D3 : Dv G7 (.ref A3) (strL m0.sta) := by
            rw [hm0]
            exact Dv.ofStrs r3 (fun x hx => nsO x (List.mem_of_mem_drop (List.mem_of_mem_take hx))) (by rw [List.length_take, List.length_drop]; omega)
          have D5 : Dv G7 (.ref L) (.list (m0.calls.map callD)) := by
            rw [hm0]
            exact dvc
          have k5n : valV K5 (kS "name") = some (.str m0.name) := by rw [hm0]; exact k5n
          have hC0 : ∀ c ∈ m0.calls, ∃ m', findM ms c.2 = some m' := by rw [hm0]; exact hcm
          have n0 : m0.name = n := by rw [hm0]
          clear hm0 dvc hcs hlbs nm0
          refine ⟨_, rfl, _, rfl, _, rfl, b, d, kn, G7, m0, ms, rfl, g9.gh, g9.box, g9.gb, ⟨K5, A1, A2, A3, L, e9, k5n, k5i, k5o, k5s, k5c, D1.same g9.gh, D2.same g9.gh, D3.same g9.gh, D5.same g9.gh⟩, hKn.same g9.gh, hC0, B0, hB, fun G8 H10 pl ls gl ll lok dvl => ?_⟩
          have g10 := g9.trans gl
          have e10 := gl.bx d _ db e9
          have d10 := gl.new d _ e9 d7
          refine ⟨_, rfl, d, _, rfl, DPut.k (k := kS "links") e10 (Nat.lt_of_le_of_lt k5l (by decide)), ?_⟩
          have k6n := (vput_ne (kvs := K5) (v := .ref pl) (key_ne (x := "name") (y := "links") (by decide))).trans k5n
          have k6i := (vput_ne (kvs := K5) (v := .ref pl) (key_ne (x := "inlets") (y := "links") (by decide))).trans k5i
          have k6o := (vput_ne (kvs := K5) (v := .ref pl) (key_ne (x := "outlets") (y := "links") (by decide))).trans k5o
          have k6s := (vput_ne (kvs := K5) (v := .ref pl) (key_ne (x := "stations") (y := "links") (by decide))).trans k5s
          have k6c := (vput_ne (kvs := K5) (v := .ref pl) (key_ne (x := "calls") (y := "links") (by decide))).trans k5c
          have k6l := vput_same (kvs := K5) (k := kS "links") (v := .ref pl)
          generalize putK K5 (kS "links") (.ref pl) = K6 at k6n k6i k6o k6s k6c k6l ⊢
          have g11 := g10.change (o := .dK K6) nd0 d10 db
          have g12 := g11.freeze nd0 upd_same d10 db
          have sF : Same G7 (upd G8 d (.dK K6)) := gl.gs.trans (same_upd d10)
          refine ⟨_, rfl, kk _ _ (.ref d) { m0 with links := ls } g12 ⟨⟨B0.nd, B0.nm, B0.name, B0.inl, B0.out0, B0.out, B0.sta0, B0.sta, B0.few⟩, hC0, lok, ll⟩ n0 ⟨d, K6, A1, A2, A3, pl, L, rfl, upd_same, k6n, k6i, k6o, k6s, k6l, k6c, D1.same sF, D2.same sF, D3.same sF, dvl.same (same_upd d10), D5.same sF⟩⟩
end
end My

namespace My
open PySem PySem.Spec PyProof.Rows L2
local macro_rules | `(tactic| walk_at "side") => `(tactic| first | (dsimp only; omega) | exact ⟨by omega, by omega⟩ | exact Or.inl ⟨by omega, by omega⟩ | exact Or.inr ⟨by omega, by omega⟩ | decide)
local macro_rules | `(tactic| walk_at "sq") => `(tactic| first | assumption | exact SqL.of (by assumption) | exact SqT.of (by assumption) | (refine L2.Same.seq (by assumption) ?_; walk_at "sq") | (refine L2.Same.seqT (by assumption) ?_; walk_at "sq") | exact Or.inl (by walk_at "sq") | exact Or.inr (by walk_at "sq"))
local macro_rules | `(tactic| walk_at "1") => `(tactic| first
  | refine ⟨_, rfl, iteT ?_⟩
  | refine ⟨_, rfl, iteF ?_⟩
  | refine ⟨_, rfl, ?_⟩
  | refine ⟨_, _, rfl, rfl, (by walk_at "side"), ?_⟩
  | refine ⟨_, _, rfl, rfl, ?_⟩
  | refine ⟨_, _, _, _, true, rfl, .ty _, .base (.int _), kit_ty (a := "int") (by decide +kernel), ?_⟩
  | refine ⟨_, _, _, _, false, rfl, .ty _, .base (.int _), kit_ty (a := "int") (by decide +kernel), ?_⟩
  | refine ⟨_, _, rfl, (by walk_at "sq"), ?_⟩
  | refine ⟨_, _, _, _, rfl, rfl, (by walk_at "sq"), (by first | rfl | assumption), ?_⟩
  | refine Or.inl ⟨_, _, _, _, rfl, rfl, (by walk_at "sq"), (by first | rfl | assumption), ?_⟩
  | refine Or.inr (Or.inl ⟨_, _, _, _, rfl, rfl, (by walk_at "sq"), (by first | rfl | assumption), ?_⟩)
  | refine ⟨_, _, rfl, Or.inl ⟨(by walk_at "sq"), ?_⟩⟩
  | refine ⟨rfl, ?_⟩
  | refine iteT ?_
  | refine iteF ?_
  | refine ⟨_, _, _, _, _, rfl, (by assumption), (by assumption), (by assumption), (by assumption), ?_⟩
  | refine Or.inl ⟨_, rfl, ?_⟩
  | refine Or.inr ⟨_, rfl, ?_⟩
  | refine ⟨_, _, rfl, (by walk_at "side"), ?_⟩
  | refine ⟨_, _, rfl, ?_⟩)
local macro_rules | `(tactic| walk_at "fld") => `(tactic| skip)
local macro_rules | `(tactic| walk_at "s") => `(tactic| repeat walk_at "1")
local macro_rules | `(tactic| walk_at "size") => `(tactic| first | exact Nat.le_of_ble_eq_true rfl | (simp only [List.length_map, List.length_append, List.length_cons, List.length_nil]; omega))
local macro_rules | `(tactic| walk_at "new") => `(tactic| (first | refine ⟨(by walk_at "size"), fun p hp => ?_⟩ | refine fun p hp => ?_); (generalize hq : upd _ p _ = H1); (obtain ⟨s, e⟩ := new_facts hp hq); clear hq)
/-- modules each of which calls elder ones -/
inductive HouseOk : List DM → Prop
  | nil : HouseOk []
  | snoc {ms : List DM} {m : DM} (h : HouseOk ms) (o : DMOk ms m) (n : modNames[ms.length]? = some m.name) : HouseOk (ms ++ [m])
theorem HouseOk.base {ms : List DM} (h : HouseOk ms) : ∀ m ∈ ms, DMBase m := by
  induction h with
  | nil => exact fun m hm => nomatch hm
  | snoc h o n ih =>
    intro m hm
    rcases List.mem_append.mp hm with hm | hm
    · exact ih m hm
    · rw [List.mem_singleton.mp hm]
      exact o.base
theorem HouseOk.ok {ms : List DM} (h : HouseOk ms) : ∀ m ∈ ms, ∃ ms', (∀ m' ∈ ms', DMBase m') ∧ DMOk ms' m := by
  induction h with
  | nil => exact fun m hm => nomatch hm
  | snoc h o n ih =>
    intro m hm
    rcases List.mem_append.mp hm with hm | hm
    · exact ih m hm
    · rw [List.mem_singleton.mp hm]
      exact ⟨_, h.base, o⟩
theorem HouseOk.names {ms : List DM} (h : HouseOk ms) : ms.map (·.name) = modNames.take ms.length := by
  induction h with
  | nil => rfl
  | snoc h o n ih =>
    rw [List.map_append, ih, List.length_append, List.length_singleton, List.take_add_one, n]
    rfl
theorem HouseOk.nodup {ms : List DM} (h : HouseOk ms) : (ms.map (·.name)).Nodup := by
  rw [h.names]
  exact (List.take_sublist _ _).nodup (by decide)
def spHouse : Sp := fun vs H Q _ => ∃ (b : Addr) (many : Nat) (G : Hp), vs = [.ref b, .int many] ∧ many ≤ 3 ∧ Same G H ∧ BoxAt H b ∧ G b = none ∧
  ∀ (G' H' : Hp) (p : Addr) (ws : List V) (ms : List DM), Go b G H G' H' → G' p = some (.lst ws) → MAll G' ws ms → HouseOk ms → ms.length = many → Q (.ref p) H'
section
variable {P : Program} {w : World} {K : PySem.W.Frag} {mg : Str → Option Value} {base : Heap}
abbrev s_law_house : Stmt := topS 46
theorem sc_law_house : FnScope ["box", "many", "found", "at", "calls", "sizes"] ["box", "many"] (defScope s_law_house) := ⟨rfl, rfl, rfl, by decide +kernel, rfl, by decide +kernel, by decide +kernel⟩
set_option maxHeartbeats 16000000 in
theorem ok_house (D : Df K mg "_law_house" s_law_house ["box", "many"]) (T : Txt mg) (o_law_take : Own P w K mg base "_law_take" 1 ["box", "many"] spTake) (o_law_module : Own P w K mg base "_law_module" 4 ["box", "name", "sizes", "called"] spModule) : Own P w K mg base "_law_house" 5 ["box", "many"] spHouse := by
  refine D.own sc_law_house (fun vs H Q E h => ?_) (fun f cdv A outer s H vs Q E hr h => ?_)
  · obtain ⟨_, _, _, rfl, _⟩ := h
    rfl
  · obtain ⟨b, many, G, rfl, hm3, sG, hb, Gb, kk⟩ := h
    refine ⟨_, (pss_cons (ps_set (i := 2) sc_law_house.nd rfl (Or.inl rfl) (pe_lst pa_nil))
  (pss_cons (ps_for PassesOwn.never rfl (pi_range1 (by rfl) T.range (pa_cons (pv 1) pa_nil)) (pg_name (i := 3) sc_law_house.nd rfl (Or.inl rfl))
    (C8.pss_cut (ps_set (i := 4) sc_law_house.nd rfl (Or.inl rfl) (pe_ifExp (pt_cmpR op_gt (pv 3) pe_int (nomark _)) (pe_own o_law_take (hr.mono (by decide)) (pa_cons (pv 0) (pa_cons (pe_ifExp (pt_cmpR op_lt (pv 1) pe_int (nomark _)) pe_int pe_int) pa_nil))) pe_int))
      (pss_cons (ps_set (i := 5) sc_law_house.nd rfl (Or.inl rfl) (pe_tup (pa_cons (pe_own o_law_take (hr.mono (by decide)) (pa_cons (pv 0) (pa_cons pe_int pa_nil))) (pa_cons (pe_op op_add pe_int (pe_own o_law_take (hr.mono (by decide)) (pa_cons (pv 0) (pa_cons pe_int pa_nil)))) (pa_cons (pe_op op_add pe_int (pe_own o_law_take (hr.mono (by decide)) (pa_cons (pv 0) (pa_cons pe_int pa_nil)))) (pa_cons (pv 4) pa_nil))))))
      (pss_one (ps_expr (pe_bm PySem.F.plainAttrs_list PySem.F.slot_list_append PySem.F.type_list_append mt_append (pv 2) (pa_cons (pe_own o_law_module (hr.mono (by decide)) (pa_cons (pv 0) (pa_cons (pe_ix ix_list (pe_lst (pa_cons pe_str (pa_cons pe_str (pa_cons pe_str pa_nil)))) (pv 3) (fun _ _ => rfl)) (pa_cons (pv 5) (pa_cons (pv 2) pa_nil))))) pa_nil)))))))
  (pss_one (ps_ret (pv 2))))), ?_⟩
    refine ⟨Nat.zero_le _, fun F nF => ?_⟩
    generalize hq : upd H F _ = H1
    obtain ⟨s1, eF1⟩ := new_facts nF hq
    clear hq
    have Fb : F ≠ b := hb.ne nF
    have gF : G F = none := sG.free nF
    have g1 : Go b G H G H1 := (Go.refl sG hb Gb).same s1
    refine ⟨_, rfl, _, rfl, by omega, by omega, ?_⟩
    refine for_range (lo := 0) (n := many) (fun i σ' H' => ∃ (Gi : Hp) (ws : List V) (ms : List DM) (y3 y4 y5 : Option V), σ' = [some (.ref b), some (.int (many : Nat)), some (.ref F), y3, y4, y5] ∧ Go b G H Gi H' ∧ Gi F = none ∧ H' F = some (.lst ws) ∧ MAll Gi ws ms ∧ HouseOk ms ∧ ms.length = i) ?_ ?_ ?_
    · exact ⟨G, [], [], none, none, none, rfl, g1, gF, eF1, .nil, .nil, rfl⟩
    · rintro i σ' H' hi ⟨Gi, ws, ms, y3, y4, y5, rfl, gi, nFi, eF, hM, hO, hl⟩
      -- calls
      refine ⟨fun σ' H'' => ∃ c : Nat, σ' = [some (.ref b), some (.int (many : Nat)), some (.ref F), some (.int (i : Nat)), some (.int (c : Nat)), y5] ∧ c ≤ 2 ∧ (i = 0 → c = 0) ∧ Go b G H Gi H'' ∧ H'' F = some (.lst ws), ?_, ?_⟩
      · refine ⟨_, rfl, _, _, rfl, rfl, _, rfl, ?_⟩
        have e0 : some (V.int (0 + (i : Int))) = some (V.int (i : Nat)) := by rw [Int.zero_add]
        refine ite2 (fun c => ?_) (fun c => ?_)
        · have hi0 : i ≠ 0 := fun q => by
            subst q
            have := of_decide_eq_true c
            omega
          refine ⟨_, rfl, _, rfl, _, _, rfl, rfl, _, rfl, ?_⟩
          refine ite2 (fun c2 => ?_) (fun c2 => ?_)
          · refine ⟨b, 3, rfl, by decide, by decide, gi.box, fun H2 m hm bx box => ⟨m, ?_, by omega, fun q => absurd q hi0, gi.take bx box, bx _ _ Fb eF⟩⟩
            show [some (V.ref b), some (.int (many : Nat)), some (.ref F), some (V.int (0 + (i : Int))), some (.int (m : Nat)), y5] = _
            rw [e0]
          · refine ⟨b, 2, rfl, by decide, by decide, gi.box, fun H2 m hm bx box => ⟨m, ?_, by omega, fun q => absurd q hi0, gi.take bx box, bx _ _ Fb eF⟩⟩
            show [some (V.ref b), some (.int (many : Nat)), some (.ref F), some (V.int (0 + (i : Int))), some (.int (m : Nat)), y5] = _
            rw [e0]
        · refine ⟨0, ?_, by omega, fun _ => rfl, gi, eF⟩
          show [some (V.ref b), some (.int (many : Nat)), some (.ref F), some (V.int (0 + (i : Int))), some (.int 0), y5] = _
          rw [e0]
          rfl
      · rintro σ' H2 ⟨c, rfl, hc2, hc0, g2, eF2⟩
        clear gi eF
        refine ⟨_, rfl, b, 3, rfl, by decide, by decide, g2.box, fun H3 k1 hk1 bx3 box3 => ?_⟩
        have g3 := g2.take bx3 box3
        refine ⟨_, rfl, b, 2, rfl, by decide, by decide, g3.box, fun H4 k2 hk2 bx4 box4 => ?_⟩
        have g4 := g3.take bx4 box4
        refine ⟨_, _, rfl, rfl, ?_⟩
        have e1 : (fun (i j : Int) => V.int (i + j)) 1 (k2 : Int) = V.int ((1 + k2 : Nat) : Int) := congrArg V.int (by omega)
        rw [e1]
        refine ⟨_, rfl, b, 2, rfl, by decide, by decide, g4.box, fun H5 k3 hk3 bx5 box5 => ?_⟩
        have g5 := g4.take bx5 box5
        refine ⟨_, _, rfl, rfl, ?_⟩
        have e2 : (fun (i j : Int) => V.int (i + j)) 1 (k3 : Int) = V.int ((1 + k3 : Nat) : Int) := congrArg V.int (by omega)
        rw [e2]
        have eF5 := bx5 _ _ Fb (bx4 _ _ Fb (bx3 _ _ Fb eF2))
        refine ⟨_, rfl, Nat.le_of_ble_eq_true rfl, fun t nt => ?_⟩
        generalize hq : upd H5 t _ = H6
        obtain ⟨s6, et⟩ := new_facts nt hq
        clear hq
        have g6 := g5.same s6
        have eF6 := s6 _ _ eF5
        refine ⟨_, rfl, Or.inl ⟨rfl, _, SqL.of eF6⟩, _, rfl, Nat.le_of_ble_eq_true rfl, fun q nq => ?_⟩
        generalize hq : upd H6 q _ = H7
        obtain ⟨s7, eq⟩ := new_facts nq hq
        clear hq
        have g7 := g6.same s7
        have eF7 := s7 _ _ eF6
        obtain ⟨nm, hnm⟩ : ∃ nm, modNames[i]? = some nm := by
          match i, hi with
          | 0, _ => exact ⟨_, rfl⟩
          | 1, _ => exact ⟨_, rfl⟩
          | 2, _ => exact ⟨_, rfl⟩
          | _ + 3, hi => omega
        refine ⟨_, rfl, q, _, i, .str nm, rfl, rfl, SqL.of eq, atI_nat (show (modNames.map V.str)[i]? = some (.str nm) by rw [List.getElem?_map, hnm]; rfl), ?_⟩
        refine ⟨_, rfl, _, rfl, b, t, F, nm, Gi, k1, 1 + k2, 1 + k3, c, ws, ms, rfl, g7.gh, g7.box, g7.gb, s7 _ _ et, Fb, eF7, hM, by omega, by omega, by omega, by omega, by omega, hc2, fun q => hc0 (by rw [← hl, q]; rfl), by omega, hO.nodup, hO.base, List.mem_of_getElem? hnm, fun G8 H8 v m g8 hok hn hF => ?_⟩
        have g9 := g7.trans g8
        have eF8 := g8.bx _ _ Fb eF7
        have nF8 := g8.new _ _ eF7 nFi
        refine ⟨F, ws, v, rfl, rfl, eF8, small1000_2 (by rw [hM.len]; omega), ?_⟩
        exact ⟨G8, ws ++ [v], ms ++ [m], _, _, _, rfl, g9.change nF nF8 Fb, nF8, upd_same, (hM.same g8.gs).app (.cons hF .nil), .snoc hO hok (by rw [hl, hnm, hn]), by rw [List.length_append, hl]; rfl⟩
    · rintro σ' H' ⟨Gi, ws, ms, y3, y4, y5, rfl, gi, nFi, eF, hM, hO, hl⟩
      exact ⟨_, rfl, kk _ H' F ws ms (gi.freeze nF eF nFi Fb) upd_same (hM.same (same_upd nFi)) hO hl⟩
end
end My

namespace My
open PySem PySem.Spec PyProof.Rows L2
local macro_rules | `(tactic| walk_at "side") => `(tactic| first | (dsimp only; omega) | exact ⟨by omega, by omega⟩ | exact Or.inl ⟨by omega, by omega⟩ | exact Or.inr ⟨by omega, by omega⟩ | decide)
local macro_rules | `(tactic| walk_at "sq") => `(tactic| first | assumption | exact SqL.of (by assumption) | exact SqT.of (by assumption) | (refine L2.Same.seq (by assumption) ?_; walk_at "sq") | (refine L2.Same.seqT (by assumption) ?_; walk_at "sq") | exact Or.inl (by walk_at "sq") | exact Or.inr (by walk_at "sq"))
local macro_rules | `(tactic| walk_at "1") => `(tactic| first
  | refine ⟨_, rfl, iteT ?_⟩
  | refine ⟨_, rfl, iteF ?_⟩
  | refine ⟨_, rfl, ?_⟩
  | refine ⟨_, _, rfl, rfl, (by walk_at "side"), ?_⟩
  | refine ⟨_, _, rfl, rfl, ?_⟩
  | refine ⟨_, _, _, _, true, rfl, .ty _, .base (.int _), kit_ty (a := "int") (by decide +kernel), ?_⟩
  | refine ⟨_, _, _, _, false, rfl, .ty _, .base (.int _), kit_ty (a := "int") (by decide +kernel), ?_⟩
  | refine ⟨_, _, rfl, (by walk_at "sq"), ?_⟩
  | refine ⟨_, _, _, _, rfl, rfl, (by walk_at "sq"), (by first | rfl | assumption), ?_⟩
  | refine Or.inl ⟨_, _, _, _, rfl, rfl, (by walk_at "sq"), (by first | rfl | assumption), ?_⟩
  | refine Or.inr (Or.inl ⟨_, _, _, _, rfl, rfl, (by walk_at "sq"), (by first | rfl | assumption), ?_⟩)
  | refine ⟨_, _, rfl, Or.inl ⟨(by walk_at "sq"), ?_⟩⟩
  | refine ⟨rfl, ?_⟩
  | refine iteT ?_
  | refine iteF ?_
  | refine ⟨_, _, _, _, _, rfl, (by assumption), (by assumption), (by assumption), (by assumption), ?_⟩
  | refine Or.inl ⟨_, rfl, ?_⟩
  | refine Or.inr ⟨_, rfl, ?_⟩
  | refine ⟨_, _, rfl, (by walk_at "side"), ?_⟩
  | refine ⟨_, _, rfl, ?_⟩)
local macro_rules | `(tactic| walk_at "fld") => `(tactic| skip)
local macro_rules | `(tactic| walk_at "s") => `(tactic| repeat walk_at "1")
local macro_rules | `(tactic| walk_at "size") => `(tactic| first | exact Nat.le_of_ble_eq_true rfl | (simp only [List.length_map, List.length_append, List.length_cons, List.length_nil]; omega))
local macro_rules | `(tactic| walk_at "new") => `(tactic| (first | refine ⟨(by walk_at "size"), fun p hp => ?_⟩ | refine fun p hp => ?_); (generalize hq : upd _ p _ = H1); (obtain ⟨s, e⟩ := new_facts hp hq); clear hq)
/-! ## data that is made -/
/-- from (G, H) to (G', H') by what is made alone -/
structure Gr (G H G' H' : Hp) : Prop where
  gs : Same G G'
  hs : Same H H'
  gh : Same G' H'
  nn : ∀ c o, H c = some o → G c = none → G' c = none
section
variable {G H G1 H1 G2 H2 G0 H0 : Hp} {b p : Addr} {o : HO}
theorem Gr.refl (s : Same G H) : Gr G H G H := ⟨Same.refl _, Same.refl _, s, fun _ _ _ n => n⟩
theorem Gr.trans (x : Gr G H G1 H1) (y : Gr G1 H1 G2 H2) : Gr G H G2 H2 := ⟨x.gs.trans y.gs, x.hs.trans y.hs, y.gh, fun c o e n => y.nn c o (x.hs _ _ e) (x.nn c o e n)⟩
theorem Gr.lay (s : Same G H) (n : H p = none) : Gr G H (upd G p o) (upd H p o) := ⟨same_upd (s.free n), same_upd n, same_upd2 s n, fun c o' e q => by rw [upd_ne (ne_of_none e n)]; exact q⟩
theorem Gr.hold (s : Same G H) (n : H p = none) : Gr G H G (upd H p o) := ⟨Same.refl _, same_upd n, s.trans (same_upd n), fun c o' e q => q⟩
theorem Gr.same (s : Same G H) (t : Same H H1) : Gr G H G H1 := ⟨Same.refl _, t, s.trans t, fun c o' e q => q⟩
theorem Go.gr (g : Go b G0 H0 G H) (x : Gr G H G1 H1) : Go b G0 H0 G1 H1 := g.trans ⟨x.gs, x.gh, Bx.of x.hs, g.box.same x.hs, by
  obtain ⟨_, _, _, _, e⟩ := g.box
  exact x.nn _ _ e g.gb, x.nn⟩
end
def MkD (t : TE) (σ : L2.St) (G : Hp) (d : PyData) : Prop := ∀ (G1 H1 : Hp) (Q : VK), Same G G1 → Same G1 H1 → (∀ v G2 H2, Gr G1 H1 G2 H2 → Dv G2 v d → Q v H2) → t σ H1 Q
def MkA (t : TA) (σ : L2.St) (G : Hp) (ds : List PyData) : Prop := ∀ (G1 H1 : Hp) (Q : List V → Hp → Prop), Same G G1 → Same G1 H1 → (∀ vs G2 H2, Gr G1 H1 G2 H2 → DvAll G2 vs ds → Q vs H2) → t σ H1 Q
def MkL (t : TE) (σ : L2.St) (G : Hp) (ds : List PyData) : Prop := ∀ (G1 H1 : Hp) (Q : VK), Same G G1 → Same G1 H1 → (∀ p vs G2 H2, Gr G1 H1 G2 H2 → H1 p = none → G2 p = none → H2 p = some (.lst vs) → DvAll G2 vs ds → Q (.ref p) H2) → t σ H1 Q
theorem sz2000 {n : Nat} (h : n ≤ 4000) : n ≤ sizeLine := Nat.le_trans h (by decide)
section
variable {K : PySem.W.Frag} {σ : L2.St} {G : Hp} {d e : PyData} {ds es : List PyData} {ta tb te ti th : TE} {tr : TA} {v : V} {i n : Nat}
theorem MkD.mono {G' : Hp} (h : MkD ta σ G d) (s : Same G G') : MkD ta σ G' d := fun G1 H1 Q s1 s2 k => h G1 H1 Q (s.trans s1) s2 k
theorem MkA.mono {G' : Hp} {ta : TA} (h : MkA ta σ G ds) (s : Same G G') : MkA ta σ G' ds := fun G1 H1 Q s1 s2 k => h G1 H1 Q (s.trans s1) s2 k
theorem MkD.c (h : Dv G v d) : MkD (tC v) σ G d := fun G1 H1 Q s1 s2 k => k v G1 H1 (Gr.refl s2) (h.same s1)
theorem MkD.int (i : Int) : MkD (tC (.int i)) σ G (.int i) := .c (.int i)
theorem MkD.non : MkD (tC .non) σ G .none := .c .non
theorem MkD.bl (b : Bool) : MkD (tC (.bl b)) σ G (.bool b) := .c (.bl b)
theorem MkD.str {x : Str} (h : okS x = true) : MkD (tC (.str x)) σ G (.str x) := .c (.str h)
theorem MkD.var (hv : σ[i]? = some (some v)) (h : Dv G v d) : MkD (tVar i) σ G d := fun G1 H1 Q s1 s2 k => ⟨v, hv, k v G1 H1 (Gr.refl s2) (h.same s1)⟩
theorem MkA.nil : MkA tNil σ G [] := fun G1 H1 Q s1 s2 k => k [] G1 H1 (Gr.refl s2) .nil
theorem MkA.cons (h : MkD ta σ G d) (t : MkA tr σ G ds) : MkA (tCons ta tr) σ G (d :: ds) := fun G1 H1 Q s1 s2 k =>
  h G1 H1 _ s1 s2 fun x G2 H2 g2 dx => t G2 H2 _ (s1.trans g2.gs) g2.gh fun vs G3 H3 g3 dvs => k (x :: vs) G3 H3 (g2.trans g3) (.cons (dx.same g3.gs) dvs)
theorem MkD.tup (h : MkA tr σ G ds) (l : ds.length ≤ 2000) : MkD (tTup tr) σ G (.tuple ds) := fun G1 H1 Q s1 s2 k =>
  h G1 H1 _ s1 s2 fun vs G2 H2 g2 dvs => ⟨sz2000 (by rw [dvs.len]; omega), fun p np => k (.ref p) _ _ (g2.trans (Gr.lay g2.gh np)) (.tup upd_same (dvs.same (same_upd (g2.gh.free np))) l)⟩
theorem MkL.lst (h : MkA tr σ G ds) (l : ds.length ≤ 2000) : MkL (tLst tr) σ G ds := fun G1 H1 Q s1 s2 k =>
  h G1 H1 _ s1 s2 fun vs G2 H2 g2 dvs => ⟨sz2000 (by rw [dvs.len]; omega), fun p np => k p vs G2 _ (g2.trans (Gr.hold g2.gh np)) (g2.hs.free np) (g2.gh.free np) upd_same dvs⟩
theorem MkL.dat (h : MkL ta σ G ds) (l : ds.length ≤ 2000) : MkD ta σ G (.list ds) := fun G1 H1 Q s1 s2 k =>
  h G1 H1 _ s1 s2 fun p vs G2 H2 g2 n1 np e dvs => k (.ref p) (upd G2 p (.lst vs)) H2 ⟨g2.gs.trans (same_upd np), g2.hs, fun c o q => by
    by_cases w : c = p
    · rw [w, upd_same] at q
      rw [w, e]
      exact q
    · rw [upd_ne w] at q
      exact g2.gh _ _ q, fun c o q w => by
    rw [upd_ne (ne_of_none q n1)]
    exact g2.nn c o q w⟩ (.lst upd_same (dvs.same (same_upd np)) l)
theorem MkD.lst (h : MkA tr σ G ds) (l : ds.length ≤ 2000) : MkD (tLst tr) σ G (.list ds) := (MkL.lst h l).dat l
theorem MkL.cat (h : MkD ta σ G (.list ds)) (g : MkD tb σ G (.list es)) (l : ds.length + es.length ≤ 4000) : MkL (tOp rCat ta tb) σ G (ds ++ es) := fun G1 H1 Q s1 s2 k =>
  h G1 H1 _ s1 s2 fun x G2 H2 g2 dx => g G2 H2 _ (s1.trans g2.gs) g2.gh fun y G3 H3 g3 dy => by
    have dx := dx.same g3.gs
    cases dx with
    | @lst a xs _ e1 h1 _ =>
      cases dy with
      | @lst a2 ys _ e2 h2 _ =>
        exact ⟨a, a2, xs, ys, rfl, rfl, g3.gh _ _ e1, g3.gh _ _ e2, sz2000 (by rw [h1.len, h2.len]; exact l), fun p np => k p _ G3 _ ((g2.trans g3).trans (Gr.hold g3.gh np)) ((g2.hs.trans g3.hs).free np) (g3.gh.free np) upd_same (h1.app h2)⟩
theorem DvAll.take {H : Hp} : ∀ {xs : List V} {ds : List PyData}, DvAll H xs ds → ∀ n, DvAll H (xs.take n) (ds.take n)
  | _, [], h, n => by
    rw [h.inv0, List.take_nil, List.take_nil]
    exact .nil
  | _, d :: ds, h, 0 => .nil
  | _, d :: ds, h, n + 1 => by
    obtain ⟨x, ys, rfl, h1, h2⟩ := h.inv
    exact .cons h1 (DvAll.take h2 n)
theorem DvAll.drop {H : Hp} : ∀ {xs : List V} {ds : List PyData}, DvAll H xs ds → ∀ n, DvAll H (xs.drop n) (ds.drop n)
  | _, [], h, n => by
    rw [h.inv0, List.drop_nil, List.drop_nil]
    exact .nil
  | _, d :: ds, h, 0 => h
  | _, d :: ds, h, n + 1 => by
    obtain ⟨x, ys, rfl, h1, h2⟩ := h.inv
    exact DvAll.drop h2 n
theorem DvAll.at {H : Hp} : ∀ {xs : List V} {ds : List PyData}, DvAll H xs ds → ∀ {i : Nat} {d : PyData}, ds[i]? = some d → ∃ x, xs[i]? = some x ∧ Dv H x d
  | _, [], _, i, d, e => by cases i <;> cases e
  | _, d :: ds, h, 0, _, e => by
    obtain ⟨x, ys, rfl, h1, h2⟩ := h.inv
    cases e
    exact ⟨x, rfl, h1⟩
  | _, d :: ds, h, i + 1, _, e => by
    obtain ⟨x, ys, rfl, h1, h2⟩ := h.inv
    exact DvAll.at h2 (i := i) e
theorem MkL.slTo (h : MkD te σ G (.list ds)) (g : MkD th σ G (.int (n : Nat))) : MkL (tSl (rSlL K) te tNoPart (tPart th)) σ G (ds.take n) := fun G1 H1 Q s1 s2 k =>
  h G1 H1 _ s1 s2 fun x G2 H2 g2 dx => g G2 H2 _ (s1.trans g2.gs) g2.gh fun y G3 H3 g3 dy => by
    have dx := dx.same g3.gs
    cases dy
    cases dx with
    | @lst a xs _ e1 h1 _ =>
      refine ⟨_, rfl, a, xs, rfl, SqL.of (g3.gh _ _ e1), fun p np => ?_⟩
      rw [cut_to]
      exact k p _ G3 _ ((g2.trans g3).trans (Gr.hold g3.gh np)) ((g2.hs.trans g3.hs).free np) (g3.gh.free np) upd_same (h1.take n)
theorem MkL.slFrom (h : MkD te σ G (.list ds)) (g : MkD th σ G (.int (n : Nat))) : MkL (tSl (rSlL K) te (tPart th) tNoPart) σ G (ds.drop n) := fun G1 H1 Q s1 s2 k =>
  h G1 H1 _ s1 s2 fun x G2 H2 g2 dx => g G2 H2 _ (s1.trans g2.gs) g2.gh fun y G3 H3 g3 dy => by
    have dx := dx.same g3.gs
    cases dy
    cases dx with
    | @lst a xs _ e1 h1 _ =>
      refine ⟨_, rfl, a, xs, rfl, SqL.of (g3.gh _ _ e1), fun p np => ?_⟩
      rw [cut_from]
      exact k p _ G3 _ ((g2.trans g3).trans (Gr.hold g3.gh np)) ((g2.hs.trans g3.hs).free np) (g3.gh.free np) upd_same (h1.drop n)
theorem MkD.ix (h : MkD te σ G (.list ds)) (g : MkD ti σ G (.int (n : Nat))) (e : ds[n]? = some d) : MkD (tOp (rIxL K) te ti) σ G d := fun G1 H1 Q s1 s2 k =>
  h G1 H1 _ s1 s2 fun x G2 H2 g2 dx => g G2 H2 _ (s1.trans g2.gs) g2.gh fun y G3 H3 g3 dy => by
    have dx := dx.same g3.gs
    cases dy
    cases dx with
    | @lst a xs _ e1 h1 _ =>
      obtain ⟨z, hz, dz⟩ := h1.at e
      exact ⟨a, xs, _, z, rfl, rfl, SqL.of (g3.gh _ _ e1), atI_nat hz, k z G3 H3 (g2.trans g3) dz⟩
theorem MkD.ixT (h : MkD te σ G (.tuple ds)) (g : MkD ti σ G (.int (n : Nat))) (e : ds[n]? = some d) : MkD (tOp (rIxT K) te ti) σ G d := fun G1 H1 Q s1 s2 k =>
  h G1 H1 _ s1 s2 fun x G2 H2 g2 dx => g G2 H2 _ (s1.trans g2.gs) g2.gh fun y G3 H3 g3 dy => by
    have dx := dx.same g3.gs
    cases dy
    cases dx with
    | @tup a xs _ e1 h1 _ =>
      obtain ⟨z, hz, dz⟩ := h1.at e
      exact ⟨a, xs, _, z, rfl, rfl, SqT.of (g3.gh _ _ e1), atI_nat hz, k z G3 H3 (g2.trans g3) dz⟩
/-- a if xs != [] else b -/
theorem MkD.ifNe (h : MkD ti σ G (.list es)) (y : es ≠ [] → MkD ta σ G d) (n : es = [] → MkD tb σ G d) : MkD (tIf (tTest (tOp (rNeN K) ti (tLst tNil))) ta tb) σ G d := fun G1 H1 Q s1 s2 k =>
  h G1 H1 _ s1 s2 fun x G2 H2 g2 dx => by
    cases dx with
    | @lst a xs _ e1 h1 _ =>
      refine ⟨Nat.zero_le _, fun p np => ⟨a, p, xs, rfl, rfl, SqL.of (same_upd np _ _ (g2.gh _ _ e1)), SqL.of upd_same, _, rfl, ?_⟩⟩
      have g3 := g2.trans (Gr.hold (o := .lst []) g2.gh np)
      cases es with
      | nil =>
        rw [h1.inv0]
        exact n rfl _ _ _ (s1.trans g2.gs) g3.gh fun v G4 H4 g4 dv => k v G4 H4 (g3.trans g4) dv
      | cons e0 es =>
        obtain ⟨z, zs, rfl, _, _⟩ := h1.inv
        exact y (by simp) _ _ _ (s1.trans g2.gs) g3.gh fun v G4 H4 g4 dv => k v G4 H4 (g3.trans g4) dv
theorem MkD.neg {i : Int} (h : MkD ta σ G (.int i)) : MkD (tUn (rU fun i => .int (-i)) ta) σ G (.int (-i)) := fun G1 H1 Q s1 s2 k =>
  h G1 H1 _ s1 s2 fun x G2 H2 g2 dx => by
    cases dx
    exact ⟨i, rfl, k _ G2 H2 g2 (.int _)⟩
theorem MkD.add {i j : Int} (h : MkD ta σ G (.int i)) (g : MkD tb σ G (.int j)) : MkD (tOp (rI0 fun i j => .int (i + j)) ta tb) σ G (.int (i + j)) := fun G1 H1 Q s1 s2 k =>
  h G1 H1 _ s1 s2 fun x G2 H2 g2 dx => g G2 H2 _ (s1.trans g2.gs) g2.gh fun y G3 H3 g3 dy => by
    cases dx
    cases dy
    exact ⟨i, j, rfl, rfl, k _ G3 H3 (g2.trans g3) (.int _)⟩
theorem MkD.sadd {x y : Str} (h : MkD ta σ G (.str x)) (g : MkD tb σ G (.str y)) (o : okS (x ++ y) = true) (l : x.length + y.length ≤ 4000) : MkD (tOp rCatS ta tb) σ G (.str (x ++ y)) := fun G1 H1 Q s1 s2 k =>
  h G1 H1 _ s1 s2 fun u G2 H2 g2 dx => g G2 H2 _ (s1.trans g2.gs) g2.gh fun w G3 H3 g3 dy => by
    cases dx
    cases dy
    exact ⟨x, y, rfl, rfl, sz2000 l, k _ G3 H3 (g2.trans g3) (.str o)⟩
/-- a if i > j else b -/
theorem MkD.ifGt {i j : Int} (h : MkD ti σ G (.int i)) (g : MkD th σ G (.int j)) (y : j < i → MkD ta σ G d) (n : ¬ j < i → MkD tb σ G d) : MkD (tIf (tTest (tOp (rI0 fun i j => .bl (decide (j < i))) ti th)) ta tb) σ G d := fun G1 H1 Q s1 s2 k =>
  h G1 H1 _ s1 s2 fun u G2 H2 g2 dx => g G2 H2 _ (s1.trans g2.gs) g2.gh fun w G3 H3 g3 dy => by
    cases dx
    cases dy
    have g3' := g2.trans g3
    refine ⟨i, j, rfl, rfl, _, rfl, ?_⟩
    by_cases q : j < i
    · rw [decide_eq_true q]
      exact y q _ _ _ (s1.trans g3'.gs) g3'.gh fun v G4 H4 g4 dv => k v G4 H4 (g3'.trans g4) dv
    · rw [decide_eq_false q]
      exact n q _ _ _ (s1.trans g3'.gs) g3'.gh fun v G4 H4 g4 dv => k v G4 H4 (g3'.trans g4) dv
/-- [e for x in xs], xs a list of data -/
theorem MkL.lc {j : Nat} {vs : List Nat} (f : PyData → PyData) (h : MkD te σ G (.list ds)) (hw2 : ∀ x, wipe ((wipe σ vs).set j (some x)) vs = wipe σ vs)
    (go : ∀ (G' : Hp) (x : V) (d : PyData), Same G G' → d ∈ ds → Dv G' x d → MkD ta ((wipe σ vs).set j (some x)) G' (f d)) (l : ds.length ≤ 2000) : MkL (tLc (iList K te) (gName j) tYes ta vs) σ G (ds.map f) := fun G1 H1 Q s1 s2 k =>
  h G1 H1 _ s1 s2 fun x G2 H2 g2 dx => by
    cases dx with
    | @lst a xs _ e1 h1 _ =>
      refine ⟨a, rfl, ⟨_, SqL.of (g2.gh _ _ e1)⟩, fun D nD => ?_⟩
      refine lc_seq (H0 := G2) (seqIt_l (SqL.of e1)) (fun i H3 => ∃ (G3 : Hp) (ys : List V), Gr G2 (upd H2 D (.lst [])) G3 (upd H3 D (.lst [])) ∧ Same G3 H3 ∧ G3 D = none ∧ H3 D = some (.lst ys) ∧ DvAll G3 ys ((ds.take i).map f)) ?_ ?_ ?_ ?_
      · exact ⟨G2, [], by rw [upd_upd]; exact Gr.refl (g2.gh.trans (same_upd nD)), g2.gh.trans (same_upd nD), g2.gh.free nD, upd_same, .nil⟩
      · rintro i H3 ⟨G3, ys, g3, s3, _⟩
        exact g3.gs.trans s3
      · rintro i y H3 hy ⟨G3, ys, g3, s3, n3, e3, d3⟩
        obtain ⟨dd, hdd, hyd⟩ := h1.get hy
        have hi : i < ds.length := (List.getElem?_eq_some_iff.mp hdd).1
        refine ⟨hw2 y, go G3 y dd ((s1.trans g2.gs).trans g3.gs) (List.mem_of_getElem? hdd) (hyd.same g3.gs) G3 H3 _ (Same.refl _) s3 fun z G4 H4 g4 dz => ?_⟩
        have n4 := g4.nn _ _ e3 n3
        refine ⟨ys, g4.hs _ _ e3, small1000_2 (by rw [d3.len, List.length_map, List.length_take]; omega), G4, ys ++ [z], ?_, ?_, n4, upd_same, ?_⟩
        · rw [upd_upd]
          refine g3.trans ⟨g4.gs, ?_, ?_, ?_⟩
          · intro c o e
            by_cases w : c = D
            · rw [w, upd_same] at e ⊢
              exact e
            · rw [upd_ne w] at e ⊢
              exact g4.hs _ _ e
          · intro c o e
            rw [upd_ne (ne_of_none e n4)]
            exact g4.gh _ _ e
          · intro c o e q
            by_cases w : c = D
            · rw [w]
              exact n4
            · rw [upd_ne w] at e
              exact g4.nn c o e q
        · intro c o e
          rw [upd_ne (ne_of_none e n4)]
          exact g4.gh _ _ e
        · rw [List.take_add_one, hdd, List.map_append]
          exact (d3.same g4.gs).app (.cons dz .nil)
      · rintro H3 ⟨G3, ys, g3, s3, n3, e3, d3⟩
        rw [h1.len, List.take_length] at d3
        refine k D ys G3 H3 (g2.trans ⟨g3.gs, ?_, s3, ?_⟩) (g2.hs.free nD) n3 e3 d3
        · intro c o e
          have w : c ≠ D := ne_of_none e nD
          have := g3.hs c o (by rw [upd_ne w]; exact e)
          rw [upd_ne w] at this
          exact this
        · intro c o e q
          exact g3.nn c o (by rw [upd_ne (ne_of_none e nD)]; exact e) q
/-- [e for x in xs], xs a tuple of data -/
theorem MkL.lcT {j : Nat} {vs : List Nat} (f : PyData → PyData) (h : MkD te σ G (.tuple ds)) (hw2 : ∀ x, wipe ((wipe σ vs).set j (some x)) vs = wipe σ vs)
    (go : ∀ (G' : Hp) (x : V) (d : PyData), Same G G' → d ∈ ds → Dv G' x d → MkD ta ((wipe σ vs).set j (some x)) G' (f d)) (l : ds.length ≤ 2000) : MkL (tLc (iTup K te) (gName j) tYes ta vs) σ G (ds.map f) := fun G1 H1 Q s1 s2 k =>
  h G1 H1 _ s1 s2 fun x G2 H2 g2 dx => by
    cases dx with
    | @tup a xs _ e1 h1 _ =>
      refine ⟨a, rfl, ⟨_, SqT.of (g2.gh _ _ e1)⟩, fun D nD => ?_⟩
      refine lc_seq (H0 := G2) (seqIt_t (SqT.of e1)) (fun i H3 => ∃ (G3 : Hp) (ys : List V), Gr G2 (upd H2 D (.lst [])) G3 (upd H3 D (.lst [])) ∧ Same G3 H3 ∧ G3 D = none ∧ H3 D = some (.lst ys) ∧ DvAll G3 ys ((ds.take i).map f)) ?_ ?_ ?_ ?_
      · exact ⟨G2, [], by rw [upd_upd]; exact Gr.refl (g2.gh.trans (same_upd nD)), g2.gh.trans (same_upd nD), g2.gh.free nD, upd_same, .nil⟩
      · rintro i H3 ⟨G3, ys, g3, s3, _⟩
        exact g3.gs.trans s3
      · rintro i y H3 hy ⟨G3, ys, g3, s3, n3, e3, d3⟩
        obtain ⟨dd, hdd, hyd⟩ := h1.get hy
        have hi : i < ds.length := (List.getElem?_eq_some_iff.mp hdd).1
        refine ⟨hw2 y, go G3 y dd ((s1.trans g2.gs).trans g3.gs) (List.mem_of_getElem? hdd) (hyd.same g3.gs) G3 H3 _ (Same.refl _) s3 fun z G4 H4 g4 dz => ?_⟩
        have n4 := g4.nn _ _ e3 n3
        refine ⟨ys, g4.hs _ _ e3, small1000_2 (by rw [d3.len, List.length_map, List.length_take]; omega), G4, ys ++ [z], ?_, ?_, n4, upd_same, ?_⟩
        · rw [upd_upd]
          refine g3.trans ⟨g4.gs, ?_, ?_, ?_⟩
          · intro c o e
            by_cases w : c = D
            · rw [w, upd_same] at e ⊢
              exact e
            · rw [upd_ne w] at e ⊢
              exact g4.hs _ _ e
          · intro c o e
            rw [upd_ne (ne_of_none e n4)]
            exact g4.gh _ _ e
          · intro c o e q
            by_cases w : c = D
            · rw [w]
              exact n4
            · rw [upd_ne w] at e
              exact g4.nn c o e q
        · intro c o e
          rw [upd_ne (ne_of_none e n4)]
          exact g4.gh _ _ e
        · rw [List.take_add_one, hdd, List.map_append]
          exact (d3.same g4.gs).app (.cons dz .nil)
      · rintro H3 ⟨G3, ys, g3, s3, n3, e3, d3⟩
        rw [h1.len, List.take_length] at d3
        refine k D ys G3 H3 (g2.trans ⟨g3.gs, ?_, s3, ?_⟩) (g2.hs.free nD) n3 e3 d3
        · intro c o e
          have w : c ≠ D := ne_of_none e nD
          have := g3.hs c o (by rw [upd_ne w]; exact e)
          rw [upd_ne w] at this
          exact this
        · intro c o e q
          exact g3.nn c o (by rw [upd_ne (ne_of_none e nD)]; exact e) q
/-- a statement x = e -/
theorem st_set {te : TE} {σ : L2.St} {H : Hp} {D : Ends} {i : Nat} {u : TS} (h : te σ H fun x H1 => u D (σ.set i (some x)) H1) : tSeq (tAsg te (gName i)) u D σ H := h
theorem st_ret {te : TE} {σ : L2.St} {H : Hp} {D : Ends} (h : te σ H D.rt) : tRet te D σ H := h
theorem st_drop {te : TE} {σ : L2.St} {H : Hp} {D : Ends} (h : te σ H fun _ H1 => D.nx σ H1) : tDrop te D σ H := h
theorem st_seq {t u : TS} {σ : L2.St} {H : Hp} {D : Ends} (h : t { D with nx := u D } σ H) : tSeq t u D σ H := h
theorem st_op {r : R2} {ta tb : TE} {σ : L2.St} {H : Hp} {Q : VK} (h : ta σ H fun x H1 => tb σ H1 fun y H2 => r x y H2 Q) : tOp r ta tb σ H Q := h
theorem st_bm {K : PySem.W.Frag} {T : String} {r : V → List V → Hp → VK → Prop} {to : TE} {t : TA} {σ : L2.St} {H : Hp} {Q : VK} (h : to σ H fun x H1 => tyV K T x H1 ∧ t σ H1 fun xs H2 => r x xs H2 Q) : tBM K T r to t σ H Q := h
theorem st_set1 {te : TE} {σ : L2.St} {H : Hp} {D : Ends} {i : Nat} (h : te σ H fun x H1 => D.nx (σ.set i (some x)) H1) : tAsg te (gName i) D σ H := h
end
end My

namespace My
open PySem PySem.Spec PyProof.Rows L2
local macro_rules | `(tactic| walk_at "side") => `(tactic| first | (dsimp only; omega) | exact ⟨by omega, by omega⟩ | exact Or.inl ⟨by omega, by omega⟩ | exact Or.inr ⟨by omega, by omega⟩ | decide)
local macro_rules | `(tactic| walk_at "sq") => `(tactic| first | assumption | exact SqL.of (by assumption) | exact SqT.of (by assumption) | (refine L2.Same.seq (by assumption) ?_; walk_at "sq") | (refine L2.Same.seqT (by assumption) ?_; walk_at "sq") | exact Or.inl (by walk_at "sq") | exact Or.inr (by walk_at "sq"))
local macro_rules | `(tactic| walk_at "1") => `(tactic| first
  | refine ⟨_, rfl, iteT ?_⟩
  | refine ⟨_, rfl, iteF ?_⟩
  | refine ⟨_, rfl, ?_⟩
  | refine ⟨_, _, rfl, rfl, (by walk_at "side"), ?_⟩
  | refine ⟨_, _, rfl, rfl, ?_⟩
  | refine ⟨_, _, _, _, true, rfl, .ty _, .base (.int _), kit_ty (a := "int") (by decide +kernel), ?_⟩
  | refine ⟨_, _, _, _, false, rfl, .ty _, .base (.int _), kit_ty (a := "int") (by decide +kernel), ?_⟩
  | refine ⟨_, _, rfl, (by walk_at "sq"), ?_⟩
  | refine ⟨_, _, _, _, rfl, rfl, (by walk_at "sq"), (by first | rfl | assumption), ?_⟩
  | refine Or.inl ⟨_, _, _, _, rfl, rfl, (by walk_at "sq"), (by first | rfl | assumption), ?_⟩
  | refine Or.inr (Or.inl ⟨_, _, _, _, rfl, rfl, (by walk_at "sq"), (by first | rfl | assumption), ?_⟩)
  | refine ⟨_, _, rfl, Or.inl ⟨(by walk_at "sq"), ?_⟩⟩
  | refine ⟨rfl, ?_⟩
  | refine iteT ?_
  | refine iteF ?_
  | refine ⟨_, _, _, _, _, rfl, (by assumption), (by assumption), (by assumption), (by assumption), ?_⟩
  | refine Or.inl ⟨_, rfl, ?_⟩
  | refine Or.inr ⟨_, rfl, ?_⟩
  | refine ⟨_, _, rfl, (by walk_at "side"), ?_⟩
  | refine ⟨_, _, rfl, ?_⟩)
local macro_rules | `(tactic| walk_at "fld") => `(tactic| skip)
local macro_rules | `(tactic| walk_at "s") => `(tactic| repeat walk_at "1")
local macro_rules | `(tactic| walk_at "size") => `(tactic| first | exact Nat.le_of_ble_eq_true rfl | (simp only [List.length_map, List.length_append, List.length_cons, List.length_nil]; omega))
local macro_rules | `(tactic| walk_at "new") => `(tactic| (first | refine ⟨(by walk_at "size"), fun p hp => ?_⟩ | refine fun p hp => ?_); (generalize hq : upd _ p _ = H1); (obtain ⟨s, e⟩ := new_facts hp hq); clear hq)
/-! ## what is wrong of a drawn module -/
def words : List Str := ["name", "inlets", "outlets", "stations", "links", "calls"]
def args (m : DM) : List PyData := [.str m.name, strL m.inl, strL m.out, strL m.sta, .list (m.links.map linkD), .list (m.calls.map callD)]
def wordL : List PyData → Option Str
  | [a, b, c, d, e, f] => wordM a b c d e f
  | _ => none
/-- d in the place k of a module's arguments is the first that is wrong -/
def BadAt (m : DM) (k : Nat) (d : PyData) : Prop := (∃ w, words[k]? = some w ∧ wordL ((args m).set k d) = some w) ∧ (k = 5 → (itemsD d).all labOk = true)
theorem strsD_strs : ∀ ss : List Str, strsD (ss.map PyData.str) = ss
  | [] => rfl
  | x :: ss => by
    show x :: strsD (ss.map PyData.str) = x :: ss
    rw [strsD_strs ss]
theorem strsI_strL (ss : List Str) : strsI (strL ss) = ss := strsD_strs ss
theorem all_names {ss : List Str} (h : ∀ x ∈ ss, nameS x = true) : (ss.map PyData.str).all isNameD = true := by
  rw [List.all_map]
  exact List.all_eq_true.mpr h
/-- names that are free -/
theorem free_yes {ss ts : List Str} (h : ∀ x ∈ ss, nameS x = true) (n : ss.Nodup) (f : ∀ x ∈ ss, x ∉ ts) : areFree (ss.map PyData.str) ts = true := by
  unfold areFree
  rw [all_names h, strsD_strs, decide_eq_true n, Bool.true_and, Bool.true_and, Bool.not_eq_true', Bool.eq_false_iff]
  intro q
  obtain ⟨x, hx, hq⟩ := List.any_eq_true.mp q
  exact f x hx (of_decide_eq_true hq)
theorem free_no_name {ds : List PyData} {ts : List Str} {d : PyData} (h : d ∈ ds) (n : isNameD d = false) : areFree ds ts = false := by
  unfold areFree
  rw [show ds.all isNameD = false from Bool.eq_false_iff.mpr fun q => by
    have := List.all_eq_true.mp q d h
    rw [n] at this
    cases this]
  rfl
theorem free_no_dup {ss ts : List Str} (n : ¬ ss.Nodup) : areFree (ss.map PyData.str) ts = false := by
  unfold areFree
  rw [strsD_strs, decide_eq_false n, Bool.false_and, Bool.and_false]
theorem free_no_taken {ss ts : List Str} {x : Str} (h : x ∈ ss) (t : x ∈ ts) : areFree (ss.map PyData.str) ts = false := by
  unfold areFree
  rw [strsD_strs, show (ss.any fun x => decide (x ∈ ts)) = true from List.any_eq_true.mpr ⟨x, h, decide_eq_true t⟩, Bool.not_true, Bool.and_false, Bool.and_false]
section
variable {ms : List DM} {m : DM}
/-- what a drawn module's names are -/
structure NameFacts (m : DM) : Prop where
  name : nameS m.name = true
  i1 : areFree (m.inl.map PyData.str) [] = true
  o1 : areFree (m.out.map PyData.str) m.inl = true
  s1 : areFree (m.sta.map PyData.str) (m.inl ++ m.out) = true
theorem modNames_name : ∀ x ∈ modNames, nameS x = true := by decide +kernel
theorem nd_parts (B : DMBase m) : m.inl.Nodup ∧ m.out.Nodup ∧ m.sta.Nodup ∧ (m.calls.map (·.1)).Nodup ∧ (∀ x ∈ m.out, x ∉ m.inl) ∧ (∀ x ∈ m.sta, x ∉ m.inl ∧ x ∉ m.out) ∧ (∀ x ∈ m.calls.map (·.1), x ∉ m.inl ∧ x ∉ m.out ∧ x ∉ m.sta) := by
  have h := B.nd
  unfold namesOf at h
  obtain ⟨h1, h2, h3⟩ := List.nodup_append.mp h
  obtain ⟨h4, h5, h6⟩ := List.nodup_append.mp h2
  obtain ⟨h7, h8, h9⟩ := List.nodup_append.mp h5
  refine ⟨h1, h4, h7, h8, fun x hx q => h3 x q x (List.mem_append_left _ hx) rfl, fun x hx => ⟨fun q => h3 x q x (List.mem_append_right _ (List.mem_append_left _ hx)) rfl, fun q => h6 x q x (List.mem_append_left _ hx) rfl⟩,
    fun x hx => ⟨fun q => h3 x q x (List.mem_append_right _ (List.mem_append_right _ hx)) rfl, fun q => h6 x q x (List.mem_append_right _ hx) rfl, fun q => h9 x q x hx rfl⟩⟩
theorem name_facts (B : DMBase m) : NameFacts m := by
  obtain ⟨n1, n2, n3, _, d1, d2, _⟩ := nd_parts B
  exact ⟨modNames_name _ B.name, free_yes (fun x hx => B.nameS (in_inl hx)) n1 (fun x _ q => nomatch q), free_yes (fun x hx => B.nameS (in_out hx)) n2 d1,
    free_yes (fun x hx => B.nameS (in_sta hx)) n3 fun x hx q => by
      rcases List.mem_append.mp q with q | q
      · exact (d2 x hx).1 q
      · exact (d2 x hx).2 q⟩
/-- the word of names that are right, and links and calls -/
theorem word_names (F : NameFacts m) (l c : PyData) : wordM (.str m.name) (strL m.inl) (strL m.out) (strL m.sta) l c =
    if (isSeqD l && (itemsD l).all (isRightD (m.inl ++ m.sta) (m.sta ++ m.out) (lblS c))) = true then
      if (isSeqD c && ((itemsD c).all isCallD && areFree ((lblS c).map PyData.str) (m.inl ++ (m.out ++ m.sta)))) = true then none else some ("calls" : Str)
    else some ("links" : Str) := by
  unfold wordM
  rw [if_pos (show isNameD (.str m.name) = true from F.name)]
  have e : wordN [(("inlets" : Str), strL m.inl), (("outlets" : Str), strL m.out), (("stations" : Str), strL m.sta)] [] = none := by
    unfold wordN
    rw [if_pos (show (isSeqD (strL m.inl) && areFree (itemsD (strL m.inl)) []) = true from F.i1)]
    unfold wordN
    rw [List.nil_append, show strsD (itemsD (strL m.inl)) = m.inl from strsD_strs _, if_pos (show (isSeqD (strL m.out) && areFree (itemsD (strL m.out)) m.inl) = true from F.o1)]
    unfold wordN
    rw [show strsD (itemsD (strL m.out)) = m.out from strsD_strs _, if_pos (show (isSeqD (strL m.sta) && areFree (itemsD (strL m.sta)) (m.inl ++ m.out)) = true from F.s1)]
    rfl
  rw [e, strsI_strL, strsI_strL, strsI_strL]
theorem word_0 {n i o s l c : PyData} (h : isNameD n = false) : wordM n i o s l c = some ("name" : Str) := by
  unfold wordM
  rw [if_neg (by rw [h]; exact Bool.false_ne_true)]
theorem word_1 {n i o s l c : PyData} (hn : isNameD n = true) (h : (isSeqD i && areFree (itemsD i) []) = false) : wordM n i o s l c = some ("inlets" : Str) := by
  unfold wordM
  rw [if_pos hn]
  have e : wordN [(("inlets" : Str), i), (("outlets" : Str), o), (("stations" : Str), s)] [] = some ("inlets" : Str) := by
    unfold wordN
    rw [if_neg (by rw [h]; exact Bool.false_ne_true)]
  rw [e]
theorem word_2 {n i o s l c : PyData} (hn : isNameD n = true) (hi : (isSeqD i && areFree (itemsD i) []) = true) (h : (isSeqD o && areFree (itemsD o) (strsI i)) = false) : wordM n i o s l c = some ("outlets" : Str) := by
  unfold wordM
  rw [if_pos hn]
  have e : wordN [(("inlets" : Str), i), (("outlets" : Str), o), (("stations" : Str), s)] [] = some ("outlets" : Str) := by
    unfold wordN
    rw [if_pos hi, List.nil_append]
    unfold wordN
    rw [if_neg (by rw [h]; exact Bool.false_ne_true)]
  rw [e]
theorem word_3 {n i o s l c : PyData} (hn : isNameD n = true) (hi : (isSeqD i && areFree (itemsD i) []) = true) (ho : (isSeqD o && areFree (itemsD o) (strsI i)) = true) (h : (isSeqD s && areFree (itemsD s) (strsI i ++ strsI o)) = false) : wordM n i o s l c = some ("stations" : Str) := by
  unfold wordM
  rw [if_pos hn]
  have e : wordN [(("inlets" : Str), i), (("outlets" : Str), o), (("stations" : Str), s)] [] = some ("stations" : Str) := by
    unfold wordN
    rw [if_pos hi, List.nil_append]
    unfold wordN
    rw [if_pos ho]
    unfold wordN
    rw [if_neg (by rw [h]; exact Bool.false_ne_true)]
  rw [e]
/-! ### ends -/
theorem end_plain {x : Str} {ns ls : List Str} (h : x ∈ ns) : isEndS x ns ls = true := by
  unfold isEndS
  rw [decide_eq_true h, Bool.true_or]
theorem lab_point (l o : Str) : 46 ∈ TL.tl (lab l o) := by
  unfold lab
  rw [TL.tl_append, TL.tl_append]
  exact List.mem_append_left _ (List.mem_append_right _ (by decide))
theorem point_no {x : Str} {ns : List Str} (h : 46 ∈ TL.tl x) (n : ∀ y ∈ ns, nameS y = true) : x ∉ ns := fun q => name_point (n x q) h
theorem end_lab {l o : Str} {ns ls : List Str} (nl : 46 ∉ TL.tl l) (n : ∀ y ∈ ns, nameS y = true) : isEndS (lab l o) ns ls = (decide (l ∈ ls) && nameS o) := by
  unfold isEndS
  rw [decide_eq_false (point_no (lab_point l o) n), Bool.false_or, part_lab nl]
  show (decide ((("." : Str)) = ".") && _) = _
  rw [decide_eq_true rfl, Bool.true_and]
theorem end_no {x : Str} {ns ls : List Str} (h : 46 ∉ TL.tl x) (n : x ∉ ns) : isEndS x ns ls = false := by
  unfold isEndS
  rw [decide_eq_false n, Bool.false_or, part_plain h]
  show (decide (Str.empty = ".") && _) = false
  rw [decide_eq_false (by decide), Bool.false_and]
/-- an end of a drawn link is right where the labels are known -/
theorem EndIs.right {ns ls : List Str} {x : Str} (h : EndIs m ns x) (n : ∀ y ∈ ns, nameS y = true) (hl : ∀ c ∈ m.calls, c.1 ∈ ls) : isEndS x ns ls = true := by
  cases h with
  | plain h _ => exact end_plain h
  | call c o hc nl no e =>
    subst e
    rw [end_lab (name_point nl) n, decide_eq_true (hl c hc), no]
    rfl
/-- without labels it is right just where it has no point -/
theorem EndIs.bare {ns : List Str} {x : Str} (h : EndIs m ns x) (n : ∀ y ∈ ns, nameS y = true) : isEndS x ns [] = !decide (46 ∈ TL.tl x) := by
  cases h with
  | plain h nm => rw [end_plain h, decide_eq_false (name_point nm)]; rfl
  | call c o hc nl no e =>
    subst e
    rw [end_lab (name_point nl) n, decide_eq_true (lab_point _ _)]
    rfl
theorem beg_names (B : DMBase m) : ∀ y ∈ m.inl ++ m.sta, nameS y = true := fun y hy => by
  rcases List.mem_append.mp hy with h | h
  · exact B.nameS (in_inl h)
  · exact B.nameS (in_sta h)
theorem goe_names (B : DMBase m) : ∀ y ∈ m.sta ++ m.out, nameS y = true := fun y hy => by
  rcases List.mem_append.mp hy with h | h
  · exact B.nameS (in_sta h)
  · exact B.nameS (in_out h)
theorem right_link {bs es ls : List Str} (l : Str × Str × Nat × Nat) : isRightD bs es ls (linkD l) = (isEndS l.1 bs ls && isEndS l.2.1 es ls) := by
  show ((decide ((0 : Int) ≤ (l.2.2.1 : Nat)) && decide ((0 : Int) ≤ (l.2.2.2 : Nat))) && (isEndS l.1 bs ls && isEndS l.2.1 es ls)) = _
  rw [decide_eq_true (by omega), decide_eq_true (by omega), Bool.true_and, Bool.true_and]
theorem links_right (M : ∀ m' ∈ ms, DMBase m') (O : DMOk ms m) {ls : List Str} (hl : ∀ c ∈ m.calls, c.1 ∈ ls) : (m.links.map linkD).all (isRightD (m.inl ++ m.sta) (m.sta ++ m.out) ls) = true := by
  rw [List.all_map]
  refine List.all_eq_true.mpr fun l h => ?_
  obtain ⟨h1, h2, _⟩ := O.links l h
  show isRightD _ _ _ (linkD l) = true
  rw [right_link, (beg_is O.base M h1).right (beg_names O.base) hl, (goe_is O.base M h2).right (goe_names O.base) hl]
  rfl
/-- a link leads to or from a call -/
def callsL (m : DM) : Bool := m.links.any fun l => decide (46 ∈ TL.tl (l.1 ++ l.2.1))
theorem links_bare (M : ∀ m' ∈ ms, DMBase m') (O : DMOk ms m) : (m.links.map linkD).all (isRightD (m.inl ++ m.sta) (m.sta ++ m.out) []) = !callsL m := by
  unfold callsL
  rw [List.all_map]
  have go : ∀ ls : List (Str × Str × Nat × Nat), (∀ l ∈ ls, linkOk ms m l) → ls.all (isRightD (m.inl ++ m.sta) (m.sta ++ m.out) [] ∘ linkD) = !ls.any fun l => decide (46 ∈ TL.tl (l.1 ++ l.2.1)) := by
    intro ls
    induction ls with
    | nil => exact fun _ => rfl
    | cons l ls ih =>
      intro h
      obtain ⟨h1, h2, _⟩ := h l (List.mem_cons_self ..)
      rw [List.any_cons, List.all_cons, ih fun x hx => h x (List.mem_cons_of_mem _ hx), Bool.not_or]
      congr 1
      show isRightD _ _ _ (linkD l) = _
      rw [right_link, (beg_is O.base M h1).bare (beg_names O.base), (goe_is O.base M h2).bare (goe_names O.base), TL.tl_append]
      by_cases a : 46 ∈ TL.tl l.1
      · rw [decide_eq_true a, decide_eq_true (List.mem_append_left _ a)]
        rfl
      · by_cases b : 46 ∈ TL.tl l.2.1
        · rw [decide_eq_false a, decide_eq_true b, decide_eq_true (List.mem_append_right _ b)]
          rfl
        · rw [decide_eq_false a, decide_eq_false b, decide_eq_false (fun q => by rcases List.mem_append.mp q with q | q; exact a q; exact b q)]
          rfl
  exact go m.links O.links
theorem lbl_calls (cs : List (Str × Str)) : lblS (.list (cs.map callD)) = cs.map (·.1) := by
  show (cs.map callD).filterMap labS = _
  induction cs with
  | nil => rfl
  | cons c cs ih =>
    rw [List.map_cons, List.filterMap_cons]
    show c.1 :: (cs.map callD).filterMap labS = _
    rw [ih]
    rfl
theorem name_of_mem (M : ∀ m' ∈ ms, DMBase m') (O : DMOk ms m) : ∀ c ∈ m.calls, nameS c.2 = true := fun c hc => by
  obtain ⟨m', h⟩ := O.calls c hc
  obtain ⟨h1, h2⟩ := findM_mem h
  rw [← h2]
  exact modNames_name _ (M m' h1).name
theorem calls_right (M : ∀ m' ∈ ms, DMBase m') (O : DMOk ms m) : (m.calls.map callD).all isCallD = true := by
  rw [List.all_map]
  refine List.all_eq_true.mpr fun c hc => ?_
  show (nameS c.1 && nameS c.2) = true
  rw [O.base.nameS (in_lab hc), name_of_mem M O c hc]
  rfl
theorem labels_free (B : DMBase m) : areFree ((m.calls.map (·.1)).map PyData.str) (m.inl ++ (m.out ++ m.sta)) = true := by
  obtain ⟨_, _, _, n, _, _, d⟩ := nd_parts B
  refine free_yes (fun x hx => ?_) n fun x hx q => ?_
  · obtain ⟨c, hc, rfl⟩ := List.mem_map.mp hx
    exact B.nameS (in_lab hc)
  · obtain ⟨d1, d2, d3⟩ := d x hx
    rcases List.mem_append.mp q with q | q
    · exact d1 q
    · rcases List.mem_append.mp q with q | q
      · exact d2 q
      · exact d3 q
/-- a drawn module is right -/
theorem word_good (M : ∀ m' ∈ ms, DMBase m') (O : DMOk ms m) : wordL (args m) = none := by
  show wordM _ _ _ _ _ _ = none
  have h1 : (isSeqD (.list (m.links.map linkD)) && (itemsD (.list (m.links.map linkD))).all (isRightD (m.inl ++ m.sta) (m.sta ++ m.out) (m.calls.map (·.1)))) = true := links_right M O fun c hc => List.mem_map_of_mem hc
  have h2 : (isSeqD (.list (m.calls.map callD)) && ((itemsD (.list (m.calls.map callD))).all isCallD && areFree ((m.calls.map (·.1)).map PyData.str) (m.inl ++ (m.out ++ m.sta)))) = true := by
    rw [labels_free O.base, show (itemsD (.list (m.calls.map callD))).all isCallD = true from calls_right M O]
    rfl
  rw [word_names (name_facts O.base), lbl_calls, if_pos h1, if_pos h2]
theorem word_tuples (M : ∀ m' ∈ ms, DMBase m') (O : DMOk ms m) : wordM (.str m.name) (.tuple (m.inl.map .str)) (.tuple (m.out.map .str)) (.tuple (m.sta.map .str)) (.tuple (m.links.map linkD)) (.tuple (m.calls.map callD)) = none := word_good M O
/-- without calls -/
theorem word_bare (M : ∀ m' ∈ ms, DMBase m') (O : DMOk ms m) : wordM (.str m.name) (strL m.inl) (strL m.out) (strL m.sta) (.list (m.links.map linkD)) .none = some (if callsL m = true then ("links" : Str) else ("calls" : Str)) := by
  rw [word_names (name_facts O.base)]
  rw [show (isSeqD (.list (m.links.map linkD)) && (itemsD (.list (m.links.map linkD))).all (isRightD (m.inl ++ m.sta) (m.sta ++ m.out) (lblS .none))) = !callsL m from links_bare M O]
  cases callsL m with
  | true => rfl
  | false => rfl
end
end My

namespace My
open PySem PySem.Spec PyProof.Rows L2
local macro_rules | `(tactic| walk_at "side") => `(tactic| first | (dsimp only; omega) | exact ⟨by omega, by omega⟩ | exact Or.inl ⟨by omega, by omega⟩ | exact Or.inr ⟨by omega, by omega⟩ | decide)
local macro_rules | `(tactic| walk_at "sq") => `(tactic| first | assumption | exact SqL.of (by assumption) | exact SqT.of (by assumption) | (refine L2.Same.seq (by assumption) ?_; walk_at "sq") | (refine L2.Same.seqT (by assumption) ?_; walk_at "sq") | exact Or.inl (by walk_at "sq") | exact Or.inr (by walk_at "sq"))
local macro_rules | `(tactic| walk_at "1") => `(tactic| first
  | refine ⟨_, rfl, iteT ?_⟩
  | refine ⟨_, rfl, iteF ?_⟩
  | refine ⟨_, rfl, ?_⟩
  | refine ⟨_, _, rfl, rfl, (by walk_at "side"), ?_⟩
  | refine ⟨_, _, rfl, rfl, ?_⟩
  | refine ⟨_, _, _, _, true, rfl, .ty _, .base (.int _), kit_ty (a := "int") (by decide +kernel), ?_⟩
  | refine ⟨_, _, _, _, false, rfl, .ty _, .base (.int _), kit_ty (a := "int") (by decide +kernel), ?_⟩
  | refine ⟨_, _, rfl, (by walk_at "sq"), ?_⟩
  | refine ⟨_, _, _, _, rfl, rfl, (by walk_at "sq"), (by first | rfl | assumption), ?_⟩
  | refine Or.inl ⟨_, _, _, _, rfl, rfl, (by walk_at "sq"), (by first | rfl | assumption), ?_⟩
  | refine Or.inr (Or.inl ⟨_, _, _, _, rfl, rfl, (by walk_at "sq"), (by first | rfl | assumption), ?_⟩)
  | refine ⟨_, _, rfl, Or.inl ⟨(by walk_at "sq"), ?_⟩⟩
  | refine ⟨rfl, ?_⟩
  | refine iteT ?_
  | refine iteF ?_
  | refine ⟨_, _, _, _, _, rfl, (by assumption), (by assumption), (by assumption), (by assumption), ?_⟩
  | refine Or.inl ⟨_, rfl, ?_⟩
  | refine Or.inr ⟨_, rfl, ?_⟩
  | refine ⟨_, _, rfl, (by walk_at "side"), ?_⟩
  | refine ⟨_, _, rfl, ?_⟩)
local macro_rules | `(tactic| walk_at "fld") => `(tactic| skip)
local macro_rules | `(tactic| walk_at "s") => `(tactic| repeat walk_at "1")
local macro_rules | `(tactic| walk_at "size") => `(tactic| first | exact Nat.le_of_ble_eq_true rfl | (simp only [List.length_map, List.length_append, List.length_cons, List.length_nil]; omega))
local macro_rules | `(tactic| walk_at "new") => `(tactic| (first | refine ⟨(by walk_at "size"), fun p hp => ?_⟩ | refine fun p hp => ?_); (generalize hq : upd _ p _ = H1); (obtain ⟨s, e⟩ := new_facts hp hq); clear hq)
section
variable {ms : List DM} {m : DM} {d : PyData} {f l x : Str}
theorem bad_0 (h : isNameD d = false) : BadAt m 0 d := ⟨⟨_, rfl, word_0 h⟩, fun q => nomatch q⟩
theorem bad_1 (B : DMBase m) (h : (isSeqD d && areFree (itemsD d) []) = false) : BadAt m 1 d := ⟨⟨_, rfl, word_1 (name_facts B).name h⟩, fun q => nomatch q⟩
theorem bad_2 (B : DMBase m) (h : (isSeqD d && areFree (itemsD d) m.inl) = false) : BadAt m 2 d :=
  ⟨⟨_, rfl, word_2 (name_facts B).name (name_facts B).i1 (by rw [strsI_strL]; exact h)⟩, fun q => nomatch q⟩
theorem bad_3 (B : DMBase m) (h : (isSeqD d && areFree (itemsD d) (m.inl ++ m.out)) = false) : BadAt m 3 d :=
  ⟨⟨_, rfl, word_3 (name_facts B).name (name_facts B).i1 (by rw [strsI_strL]; exact (name_facts B).o1) (by rw [strsI_strL, strsI_strL]; exact h)⟩, fun q => nomatch q⟩
/-- what is taken ahead of the row k -/
def takenOf (m : DM) : Nat → List Str
  | 2 => m.inl
  | 3 => m.inl ++ m.out
  | _ => []
def rowOf (m : DM) : Nat → List Str
  | 1 => m.inl
  | 2 => m.out
  | _ => m.sta
theorem bad_row (B : DMBase m) {k : Nat} (h0 : 0 < k) (h4 : k < 4) (h : (isSeqD d && areFree (itemsD d) (takenOf m k)) = false) : BadAt m k d := by
  match k, h0, h4, h with
  | 1, _, _, h => exact bad_1 B h
  | 2, _, _, h => exact bad_2 B h
  | 3, _, _, h => exact bad_3 B h
  | _ + 4, _, h4, _ => omega
theorem args_row {k : Nat} (h0 : 0 < k) (h4 : k < 4) : (args m)[k]? = some (strL (rowOf m k)) := by
  match k, h0, h4 with
  | 1, _, _ => rfl
  | 2, _, _ => rfl
  | 3, _, _ => rfl
  | _ + 4, _, h4 => omega
theorem row_names (B : DMBase m) {k : Nat} : ∀ y ∈ rowOf m k, nameS y = true := by
  intro y hy
  match k, hy with
  | 0, hy => exact B.nameS (in_sta hy)
  | 1, hy => exact B.nameS (in_inl hy)
  | 2, hy => exact B.nameS (in_out hy)
  | 3, hy => exact B.nameS (in_sta hy)
  | _ + 4, hy => exact B.nameS (in_sta hy)
theorem row_len (B : DMBase m) (k : Nat) : (rowOf m k).length ≤ 2 := by
  match k with
  | 0 => exact B.sta
  | 1 => exact B.inl
  | 2 => exact B.out
  | 3 => exact B.sta
  | _ + 4 => exact B.sta
/-- a row with a thing that is no name -/
theorem bad_put (B : DMBase m) {k : Nat} (h0 : 0 < k) (h4 : k < 4) (n : Nat) (h : isNameD d = false) : BadAt m k (.list (((rowOf m k).map PyData.str).take n ++ [d] ++ ((rowOf m k).map PyData.str).drop n)) :=
  bad_row B h0 h4 (by rw [show areFree (itemsD (.list (((rowOf m k).map PyData.str).take n ++ [d] ++ ((rowOf m k).map PyData.str).drop n))) (takenOf m k) = false from free_no_name (d := d) (List.mem_append_left _ (List.mem_append_right _ (List.mem_singleton.mpr rfl))) h, Bool.and_false])
theorem bad_kind (B : DMBase m) {k : Nat} (h0 : 0 < k) (h4 : k < 4) (h : isSeqD d = false) : BadAt m k d := bad_row B h0 h4 (by rw [h, Bool.false_and])
theorem bad_twice (B : DMBase m) {k : Nat} (h0 : 0 < k) (h4 : k < 4) (h : rowOf m k ≠ []) : BadAt m k (.list ((rowOf m k).map PyData.str ++ ((rowOf m k).map PyData.str).take 1)) := by
  refine bad_row B h0 h4 ?_
  show (true && areFree ((rowOf m k).map PyData.str ++ ((rowOf m k).map PyData.str).take 1) _) = false
  rw [Bool.true_and, ← List.map_take, ← List.map_append]
  refine free_no_dup fun q => ?_
  cases e : rowOf m k with
  | nil => exact h e
  | cons y r =>
    rw [e] at q
    exact (List.nodup_append.mp q).2.2 y (List.mem_cons_self ..) y (List.mem_cons_self ..) rfl
theorem bad_taken (B : DMBase m) {k : Nat} (h1 : 1 < k) (h4 : k < 4) (h : m.inl ≠ []) : BadAt m k (.list ((rowOf m k).map PyData.str ++ (m.inl.map PyData.str).take 1)) := by
  refine bad_row B (by omega) h4 ?_
  show (true && areFree ((rowOf m k).map PyData.str ++ (m.inl.map PyData.str).take 1) _) = false
  rw [Bool.true_and, ← List.map_take, ← List.map_append]
  cases e : m.inl with
  | nil => exact absurd e h
  | cons y r =>
    refine free_no_taken (x := y) (List.mem_append_right _ (List.mem_cons_self ..)) ?_
    match k, h1, h4 with
    | 2, _, _ => exact (by rw [show takenOf m 2 = m.inl from rfl, e]; exact List.mem_cons_self ..)
    | 3, _, _ => exact (by rw [show takenOf m 3 = m.inl ++ m.out from rfl, e]; exact List.mem_cons_self ..)
    | _ + 4, _, h4 => omega
/-! ### links -/
def BadLink (m : DM) (d : PyData) : Prop := isRightD (m.inl ++ m.sta) (m.sta ++ m.out) (m.calls.map (·.1)) d = false
theorem bad_4 (B : DMBase m) (h : (isSeqD d && (itemsD d).all (isRightD (m.inl ++ m.sta) (m.sta ++ m.out) (m.calls.map (·.1)))) = false) : BadAt m 4 d := by
  refine ⟨⟨_, rfl, ?_⟩, fun q => nomatch q⟩
  show wordM _ _ _ _ _ _ = _
  rw [word_names (name_facts B), lbl_calls, if_neg (by rw [h]; exact Bool.false_ne_true)]
theorem bad_4put (B : DMBase m) (h : BadLink m d) (n : Nat) : BadAt m 4 (.list ((m.links.map linkD).take n ++ [d] ++ (m.links.map linkD).drop n)) := by
  refine bad_4 B ?_
  show (true && ((m.links.map linkD).take n ++ [d] ++ (m.links.map linkD).drop n).all _) = false
  rw [Bool.true_and, Bool.eq_false_iff]
  intro q
  have := List.all_eq_true.mp q d (List.mem_append_left _ (List.mem_append_right _ (List.mem_singleton.mpr rfl)))
  rw [show isRightD _ _ _ d = false from h] at this
  cases this
theorem bad_4kind (B : DMBase m) (h : isSeqD d = false) : BadAt m 4 d := bad_4 B (by rw [h, Bool.false_and])
theorem bl_link (h : isLinkD d = false) : BadLink m d := right_no h
theorem bl_first {c : PyData} {v w : PyData} (h : isEndS x (m.inl ++ m.sta) (m.calls.map (·.1)) = false) : BadLink m (.tuple [.str x, c, v, w]) := by
  unfold BadLink isRightD
  cases c with
  | str y =>
    show (isLinkD _ && (isEndS x _ _ && isEndS y _ _)) = false
    rw [h, Bool.false_and, Bool.and_false]
  | _ => exact Bool.and_false _
theorem bl_then {c : PyData} {v w : PyData} (h : isEndS x (m.sta ++ m.out) (m.calls.map (·.1)) = false) : BadLink m (.tuple [c, .str x, v, w]) := by
  unfold BadLink isRightD
  cases c with
  | str y =>
    show (isLinkD _ && (isEndS y _ _ && isEndS x _ _)) = false
    rw [h, Bool.and_false, Bool.and_false]
  | _ => exact Bool.and_false _
theorem lab_names (B : DMBase m) : ∀ y ∈ m.calls.map (·.1), nameS y = true := fun y hy => by
  obtain ⟨c, hc, rfl⟩ := List.mem_map.mp hy
  exact B.nameS (in_lab hc)
theorem all_beg (B : DMBase m) : ∀ y ∈ m.inl ++ m.sta, y ∈ namesAll := fun y hy => by
  rcases List.mem_append.mp hy with h | h
  · exact B.nm _ (in_inl h)
  · exact B.nm _ (in_sta h)
theorem all_goe (B : DMBase m) : ∀ y ∈ m.sta ++ m.out, y ∈ namesAll := fun y hy => by
  rcases List.mem_append.mp hy with h | h
  · exact B.nm _ (in_sta h)
  · exact B.nm _ (in_out h)
theorem all_lab (B : DMBase m) : ∀ y ∈ m.calls.map (·.1), y ∈ namesAll := fun y hy => by
  obtain ⟨c, hc, rfl⟩ := List.mem_map.mp hy
  exact B.nm _ (in_lab hc)
/-- a plain text that is no name of any module -/
theorem end_qq {ns ls : List Str} (h : ∀ y ∈ ns, y ∈ namesAll) : isEndS "qq" ns ls = false := end_no (by decide) fun q => absurd (h _ q) (by decide)
/-- a text with a point in it: its label or its name is none -/
theorem end_odd {l o : Str} {ns ls : List Str} (e : x = lab l o) (nl : 46 ∉ TL.tl l) (h : ∀ y ∈ ns, nameS y = true) (w : (decide (l ∈ ls) && nameS o) = false) : isEndS x ns ls = false := by
  rw [e, end_lab nl h]
  exact w
theorem end_qa {ns ls : List Str} (h : ∀ y ∈ ns, nameS y = true) (g : ∀ y ∈ ls, y ∈ namesAll) : isEndS "q.a" ns ls = false :=
  end_odd (l := "q") (o := "a") rfl (by decide) h (by rw [decide_eq_false fun q => absurd (g _ q) (by decide), Bool.false_and])
theorem end_abc {ns ls : List Str} (h : ∀ y ∈ ns, nameS y = true) : isEndS "a.b.c" ns ls = false :=
  end_odd (l := "a") (o := "b.c") rfl (by decide) h (by rw [show nameS "b.c" = false by decide +kernel, Bool.and_false])
theorem end_dot {y : Str} {ns ls : List Str} (n : nameS y = true) (h : ∀ y ∈ ns, nameS y = true) : isEndS (y ++ ".") ns ls = false := by
  have e : y ++ (("." : Str)) = lab y Str.empty := by
    unfold lab
    refine TL.ext_tl ?_
    rw [TL.tl_append, TL.tl_append, TL.tl_append]
    show _ = _ ++ []
    rw [List.append_nil]
  exact end_odd e (name_point n) h (by rw [show nameS Str.empty = false by decide +kernel, Bool.and_false])
theorem okS_dot {y : Str} (n : nameS y = true) : okS (y ++ ".") = true := by
  have gl : y.length ≤ 5 := of_decide_eq_true (Bool.and_eq_true_iff.mp (Bool.and_eq_true_iff.mp n).2).1
  have l : (y ++ (("." : Str))).length = y.length + 1 := by
    rw [TL.len_tl, TL.tl_append, List.length_append, TL.len_tl y]
    rfl
  refine Bool.and_eq_true_iff.mpr ⟨?_, decide_eq_true (by rw [l]; omega)⟩
  rw [← Array.all_toList]
  show (TL.tl (y ++ ".")).all _ = true
  rw [TL.tl_append, List.all_append]
  have h1 := (Bool.and_eq_true_iff.mp (okS_name n)).1
  rw [← Array.all_toList] at h1
  rw [show (TL.tl y).all (· < 0x110000) = true from h1]
  decide
theorem end_inl (B : DMBase m) (h : x ∈ m.inl) : isEndS x (m.sta ++ m.out) (m.calls.map (·.1)) = false := by
  obtain ⟨_, _, _, _, d1, d2, _⟩ := nd_parts B
  refine end_no (name_point (B.nameS (in_inl h))) fun q => ?_
  rcases List.mem_append.mp q with q | q
  · exact (d2 x q).1 h
  · exact d1 x q h
theorem end_out (B : DMBase m) (h : x ∈ m.out) : isEndS x (m.inl ++ m.sta) (m.calls.map (·.1)) = false := by
  obtain ⟨_, _, _, _, d1, d2, _⟩ := nd_parts B
  refine end_no (name_point (B.nameS (in_out h))) fun q => ?_
  rcases List.mem_append.mp q with q | q
  · exact d1 x h q
  · exact (d2 x q).2 h
def t4 (f l : Str) (a b : Int) : PyData := .tuple [.str f, .str l, .int a, .int b]
def ones1 (f l : Str) : List PyData := [.tuple [.str f, .str l, .int 0], t4 f l (-1) 0, t4 f l 1 (-1), .tuple [.str f, .str l, .bool true, .int 0]]
def one1 (f l : Str) : PyData := .tuple [.str f, .str l, .int 1, .none]
def ones2 (f l : Str) : List PyData := [t4 "qq" l 1 0, t4 f "qq" 1 0, .list [.str f, .str l, .int 1, .int 0], .none, .str "a", t4 f "q.a" 1 0]
def one2 (l : Str) : PyData := t4 "q.a" l 1 0
def ones4 (f l o : Str) : List PyData := [t4 o l 1 0, t4 f (l ++ ".") 1 0, .tuple [.none, .str l, .int 1, .int 0], t4 "a.b.c" l 1 0]
theorem ones1_bad : ∀ d ∈ ones1 f l, BadLink m d := by
  intro d hd
  unfold ones1 at hd
  simp only [List.mem_cons, List.not_mem_nil, or_false] at hd
  rcases hd with rfl | rfl | rfl | rfl <;> exact bl_link rfl
theorem one1_bad : BadLink m (one1 f l) := bl_link rfl
theorem ones2_bad (B : DMBase m) : ∀ d ∈ ones2 f l, BadLink m d := by
  intro d hd
  unfold ones2 at hd
  simp only [List.mem_cons, List.not_mem_nil, or_false] at hd
  rcases hd with rfl | rfl | rfl | rfl | rfl | rfl
  · exact bl_first (end_qq (all_beg B))
  · exact bl_then (end_qq (all_goe B))
  · exact bl_link rfl
  · exact bl_link rfl
  · exact bl_link rfl
  · exact bl_then (end_qa (goe_names B) (all_lab B))
theorem one2_bad (B : DMBase m) : BadLink m (one2 l) := bl_first (end_qa (beg_names B) (all_lab B))
theorem ones3_bad (B : DMBase m) (h : x ∈ m.inl) : BadLink m (t4 f x 1 0) := bl_then (end_inl B h)
theorem ones4_bad (B : DMBase m) (h : x ∈ m.out) (n : nameS l = true) : ∀ d ∈ ones4 f l x, BadLink m d := by
  intro d hd
  unfold ones4 at hd
  simp only [List.mem_cons, List.not_mem_nil, or_false] at hd
  rcases hd with rfl | rfl | rfl | rfl
  · exact bl_first (end_out B h)
  · exact bl_then (end_dot n (goe_names B))
  · exact bl_link rfl
  · exact bl_first (end_abc (beg_names B))
/-! ### calls -/
def BadCall (m : DM) (d : PyData) : Prop := labOk d = true ∧ (isCallD d = false ∨ ∃ x, labS d = some x ∧ x ∈ m.inl ++ (m.out ++ m.sta))
theorem calls_ok : (m.calls.map callD).all labOk = true := by
  rw [List.all_map]
  exact List.all_eq_true.mpr fun c _ => rfl
theorem lbl_app (cs : List (Str × Str)) (ds : List PyData) : lblS (.list (cs.map callD ++ ds)) = cs.map (·.1) ++ ds.filterMap labS := by
  show (cs.map callD ++ ds).filterMap labS = _
  rw [List.filterMap_append]
  congr 1
  exact lbl_calls cs
theorem bad_5 (M : ∀ m' ∈ ms, DMBase m') (O : DMOk ms m) {ds : List PyData} (h0 : ds.all labOk = true)
    (h : ds.all isCallD = false ∨ areFree ((m.calls.map (·.1) ++ ds.filterMap labS).map PyData.str) (m.inl ++ (m.out ++ m.sta)) = false) : BadAt m 5 (.list (m.calls.map callD ++ ds)) := by
  refine ⟨⟨_, rfl, ?_⟩, fun _ => ?_⟩
  · show wordM _ _ _ _ _ _ = _
    have h1 : (isSeqD (.list (m.links.map linkD)) && (itemsD (.list (m.links.map linkD))).all (isRightD (m.inl ++ m.sta) (m.sta ++ m.out) (m.calls.map (·.1) ++ ds.filterMap labS))) = true := links_right M O fun c hc => List.mem_append_left _ (List.mem_map_of_mem hc)
    rw [word_names (name_facts O.base), lbl_app, if_pos h1, if_neg]
    show ¬ (true && ((m.calls.map callD ++ ds).all isCallD && areFree _ _)) = true
    rw [Bool.true_and, List.all_append]
    rcases h with h | h
    · rw [h, Bool.and_false, Bool.false_and]
      exact Bool.false_ne_true
    · rw [h, Bool.and_false]
      exact Bool.false_ne_true
  · show (m.calls.map callD ++ ds).all labOk = true
    rw [List.all_append, calls_ok, h0]
    rfl
theorem bad_5one (M : ∀ m' ∈ ms, DMBase m') (O : DMOk ms m) (h : BadCall m d) : BadAt m 5 (.list (m.calls.map callD ++ [d])) := by
  refine bad_5 M O (by rw [List.all_cons, h.1]; rfl) ?_
  rcases h.2 with h | ⟨x, hx, ht⟩
  · exact Or.inl (by rw [List.all_cons, h]; rfl)
  · refine Or.inr (free_no_taken (x := x) (List.mem_append_right _ ?_) ht)
    rw [List.filterMap_cons, hx]
    exact List.mem_cons_self ..
theorem bad_5two (M : ∀ m' ∈ ms, DMBase m') (O : DMOk ms m) : BadAt m 5 (.list (m.calls.map callD ++ [.tuple [.str "q", .str "r"], .tuple [.str "q", .str "s"]])) := by
  refine bad_5 M O rfl (Or.inr (free_no_dup fun q => ?_))
  have := (List.nodup_append.mp q).2.1
  revert this
  show ¬ ([("q" : Str), "q"] : List Str).Nodup
  decide
def cones1 : List PyData := [.tuple [.str "q"], .tuple [.str "q", .str "r", .str "s"], .list [.str "q", .str "r"], .tuple [.str "q", .str "abcdef"], .tuple [.str "Q", .str "r"], .none, .str "qr", .tuple [.str "q", .int 3]]
def cone2 (x : Str) : PyData := .tuple [.str x, .str "r"]
theorem cones1_bad : ∀ d ∈ cones1, BadCall m d := by
  intro d hd
  unfold cones1 at hd
  simp only [List.mem_cons, List.not_mem_nil, or_false] at hd
  rcases hd with rfl | rfl | rfl | rfl | rfl | rfl | rfl | rfl
  · exact ⟨rfl, Or.inl rfl⟩
  · exact ⟨rfl, Or.inl rfl⟩
  · exact ⟨rfl, Or.inl rfl⟩
  · exact ⟨rfl, Or.inl (show (nameS "q" && nameS "abcdef") = false by decide +kernel)⟩
  · exact ⟨rfl, Or.inl (show (nameS "Q" && nameS "r") = false by decide +kernel)⟩
  · exact ⟨rfl, Or.inl rfl⟩
  · exact ⟨rfl, Or.inl rfl⟩
  · exact ⟨rfl, Or.inl (show (nameS "q" && false) = false from Bool.and_false _)⟩
theorem cone2_bad (h : x ∈ m.inl ++ (m.out ++ m.sta)) : BadCall m (cone2 x) := ⟨rfl, Or.inr ⟨x, rfl, h⟩⟩
end
end My

namespace My
open PySem PySem.Spec PyProof.Rows L2
local macro_rules | `(tactic| walk_at "side") => `(tactic| first | (dsimp only; omega) | exact ⟨by omega, by omega⟩ | exact Or.inl ⟨by omega, by omega⟩ | exact Or.inr ⟨by omega, by omega⟩ | decide)
local macro_rules | `(tactic| walk_at "sq") => `(tactic| first | assumption | exact SqL.of (by assumption) | exact SqT.of (by assumption) | (refine L2.Same.seq (by assumption) ?_; walk_at "sq") | (refine L2.Same.seqT (by assumption) ?_; walk_at "sq") | exact Or.inl (by walk_at "sq") | exact Or.inr (by walk_at "sq"))
local macro_rules | `(tactic| walk_at "1") => `(tactic| first
  | refine ⟨_, rfl, iteT ?_⟩
  | refine ⟨_, rfl, iteF ?_⟩
  | refine ⟨_, rfl, ?_⟩
  | refine ⟨_, _, rfl, rfl, (by walk_at "side"), ?_⟩
  | refine ⟨_, _, rfl, rfl, ?_⟩
  | refine ⟨_, _, _, _, true, rfl, .ty _, .base (.int _), kit_ty (a := "int") (by decide +kernel), ?_⟩
  | refine ⟨_, _, _, _, false, rfl, .ty _, .base (.int _), kit_ty (a := "int") (by decide +kernel), ?_⟩
  | refine ⟨_, _, rfl, (by walk_at "sq"), ?_⟩
  | refine ⟨_, _, _, _, rfl, rfl, (by walk_at "sq"), (by first | rfl | assumption), ?_⟩
  | refine Or.inl ⟨_, _, _, _, rfl, rfl, (by walk_at "sq"), (by first | rfl | assumption), ?_⟩
  | refine Or.inr (Or.inl ⟨_, _, _, _, rfl, rfl, (by walk_at "sq"), (by first | rfl | assumption), ?_⟩)
  | refine ⟨_, _, rfl, Or.inl ⟨(by walk_at "sq"), ?_⟩⟩
  | refine ⟨rfl, ?_⟩
  | refine iteT ?_
  | refine iteF ?_
  | refine ⟨_, _, _, _, _, rfl, (by assumption), (by assumption), (by assumption), (by assumption), ?_⟩
  | refine Or.inl ⟨_, rfl, ?_⟩
  | refine Or.inr ⟨_, rfl, ?_⟩
  | refine ⟨_, _, rfl, (by walk_at "side"), ?_⟩
  | refine ⟨_, _, rfl, ?_⟩)
local macro_rules | `(tactic| walk_at "fld") => `(tactic| skip)
local macro_rules | `(tactic| walk_at "s") => `(tactic| repeat walk_at "1")
local macro_rules | `(tactic| walk_at "size") => `(tactic| first | exact Nat.le_of_ble_eq_true rfl | (simp only [List.length_map, List.length_append, List.length_cons, List.length_nil]; omega))
local macro_rules | `(tactic| walk_at "new") => `(tactic| (first | refine ⟨(by walk_at "size"), fun p hp => ?_⟩ | refine fun p hp => ?_); (generalize hq : upd _ p _ = H1); (obtain ⟨s, e⟩ := new_facts hp hq); clear hq)
/-! ## _law_wrong -/
theorem use_D {te : TE} {σ : L2.St} {G H : Hp} {Q : VK} (d : PyData) (s : Same G H) (m : MkD te σ G d) (k : ∀ v G2 H2, Gr G H G2 H2 → Dv G2 v d → Q v H2) : te σ H Q := m G H Q (Same.refl _) s k
theorem use_L {te : TE} {σ : L2.St} {G H : Hp} {Q : VK} (ds : List PyData) (s : Same G H) (m : MkL te σ G ds) (k : ∀ p vs G2 H2, Gr G H G2 H2 → H p = none → G2 p = none → H2 p = some (.lst vs) → DvAll G2 vs ds → Q (.ref p) H2) : te σ H Q := m G H Q (Same.refl _) s k
theorem use_A {ta : TA} {σ : L2.St} {G H : Hp} {Q : List V → Hp → Prop} (ds : List PyData) (s : Same G H) (m : MkA ta σ G ds) (k : ∀ vs G2 H2, Gr G H G2 H2 → DvAll G2 vs ds → Q vs H2) : ta σ H Q := m G H Q (Same.refl _) s k
theorem MkD.num {σ : L2.St} {G : Hp} (n : Nat) {i : Int} (h : i = (n : Int)) : MkD (tC (.int i)) σ G (.int (n : Nat)) := by
  rw [h]
  exact .int _
theorem MkD.cast {te : TE} {σ : L2.St} {G : Hp} {d e : PyData} (h : MkD te σ G d) (q : d = e) : MkD te σ G e := q ▸ h
theorem DvAll.memD {H : Hp} : ∀ {xs : List V} {ds : List PyData}, DvAll H xs ds → ∀ x ∈ xs, ∃ d ∈ ds, Dv H x d
  | _, _, .nil, x, h => nomatch h
  | _, _, .cons h t, x, hx => by
    rcases List.mem_cons.mp hx with rfl | hx
    · exact ⟨_, List.mem_cons_self .., h⟩
    · obtain ⟨d, hd, q⟩ := DvAll.memD t x hx
      exact ⟨d, List.mem_cons_of_mem _ hd, q⟩
local macro_rules | `(tactic| walk_at "mk") => `(tactic| first
  | exact MkA.nil
  | refine MkA.cons ?_ ?_
  | exact MkD.non
  | exact MkD.bl _
  | exact MkD.int _
  | exact MkD.str (by decide +kernel)
  | exact MkD.neg (MkD.int _)
  | exact MkD.var rfl (.str (by assumption))
  | refine MkD.tup ?_ (Nat.le_of_ble_eq_true rfl)
  | refine MkD.lst ?_ (Nat.le_of_ble_eq_true rfl))
local macro_rules | `(tactic| walk_at "ln") => `(tactic| ((try simp only [List.length_map, List.length_append, List.length_cons, List.length_nil, List.length_take, List.length_drop]); omega))
def spWrong : Sp := fun vs H Q _ => ∃ (b a : Addr) (k : Nat) (G : Hp) (m : DM) (ms : List DM), vs = [.ref b, .ref a, .int k] ∧ Same G H ∧ BoxAt H b ∧ G b = none ∧ Dv G (.ref a) (.list (args m)) ∧ DMOk ms m ∧ (∀ m' ∈ ms, DMBase m') ∧ k < 6 ∧
  ∀ (G' H' : Hp) (p : Addr) (ws : List V) (d : PyData), Go b G H G' H' → BadAt m k d → H' p = some (.lst ws) → G' p = none → H p = none → DvAll G' ws ((args m).set k d) → Q (.ref p) H'
section
variable {P : Program} {w : World} {K : PySem.W.Frag} {mg : Str → Option Value} {base : Heap}
abbrev s_law_wrong : Stmt := topS 48
theorem sc_law_wrong : FnScope ["box", "some", "at", "first", "odd", "row", "spot", "taken", "last", "one", "inlet"] ["box", "some", "at"] (defScope s_law_wrong) := ⟨rfl, rfl, rfl, by decide +kernel, rfl, by decide +kernel, by decide +kernel⟩
set_option maxHeartbeats 16000000 in
theorem ok_lawWrong (D : Df K mg "_law_wrong" s_law_wrong ["box", "some", "at"]) (T : Txt mg) (o_law_take : Own P w K mg base "_law_take" 1 ["box", "many"] spTake) (o_law_pick : Own P w K mg base "_law_pick" 2 ["box", "items"] spPick) : Own P w K mg base "_law_wrong" 3 ["box", "some", "at"] spWrong := by
  refine D.own sc_law_wrong (fun vs H Q E h => ?_) (fun fa cdv A outer s H vs Q E hr h => ?_)
  · obtain ⟨_, _, _, _, _, _, rfl, _⟩ := h
    rfl
  · obtain ⟨b, a, k, G, m, ms, rfl, sG, hb, Gb, dA, O, M, hk, kk⟩ := h
    have B := O.base
    refine ⟨_, (pss_cons (ps_set (i := 3) sc_law_wrong.nd rfl (Or.inl rfl) (pe_ix ix_list (pe_op op_cat (pe_op op_cat (pe_ix ix_list (pv 1) pe_int (fun _ _ => rfl)) (pe_ix ix_list (pv 1) pe_int (fun _ _ => rfl))) (pe_lst (pa_cons pe_str pa_nil))) pe_int (fun _ _ => rfl)))
  (C8.pss_cut (ps_if (pt_cmpR op_eq (pv 2) pe_int (nomark _))
    (pss_one (ps_set (i := 4) sc_law_wrong.nd rfl (Or.inl rfl) (pe_lst (pa_cons pe_str (pa_cons pe_str (pa_cons pe_str (pa_cons pe_str (pa_cons pe_non (pa_cons pe_int (pa_cons (pe_lst (pa_cons pe_str pa_nil)) (pa_cons pe_str (pa_cons pe_str pa_nil))))))))))))
    (pss_one (ps_if (pt_cmpR op_lt (pv 2) pe_int (nomark _))
        (pss_cons (ps_set (i := 5) sc_law_wrong.nd rfl (Or.inr rfl) (pe_ix ix_list (pv 1) (pv 2) (fun _ _ => rfl)))
          (pss_cons (ps_set (i := 6) sc_law_wrong.nd rfl (Or.inr rfl) (pe_own o_law_take (hr.mono (by decide)) (pa_cons (pv 0) (pa_cons (pe_op op_add (pe_callB call_len_seq (by rfl) T.len PySem.boot_len (pa_cons (pv 5) pa_nil)) pe_int) pa_nil))))
          (pss_cons (ps_setLc (i := 4) (own := [("one", 9)]) (g := gName 9) (tt := tYes) (te := tOp rCat (tOp rCat (tSl (rSlL K) (tVar 5) tNoPart (tPart (tVar 6))) (tLst (tCons (tVar 9) tNil))) (tSl (rSlL K) (tVar 5) (tPart (tVar 6)) tNoPart)) rfl sc_law_wrong.nd rfl rfl (sw_true rfl rfl rfl (by decide +kernel)) (pi_tup (pe_tup (pa_cons pe_str (pa_cons pe_str (pa_cons pe_str (pa_cons pe_non (pa_cons pe_int (pa_cons (pe_lst (pa_cons pe_str pa_nil)) (pa_cons pe_str pa_nil))))))))) (blkOk_by (own := [("one", 9)]) (N := ["box", "some", "at", "first", "odd", "row", "spot", "taken", "last", "one", "inlet"]) (sc := defScope s_law_wrong) (by decide +kernel)) (fun _ _ _ _ _ => (pg_name (i := 9) sc_law_wrong.nd rfl (Or.inl rfl))) (fun _ _ _ _ _ => pts_nil) (fun _ _ _ _ _ => (pe_op op_cat (pe_op op_cat (pe_slice sl_list (pv 5) po_none (po_some (pv 6))) (pe_lst (pa_cons (pv 9) pa_nil))) (pe_slice sl_list (pv 5) (po_some (pv 6)) po_none))))
          (pss_cons (ps_set (i := 4) sc_law_wrong.nd rfl (Or.inl rfl) (pe_op op_cat (pv 4) (pe_lst (pa_cons pe_non (pa_cons pe_int (pa_cons pe_str (pa_cons pe_bl (pa_cons (pe_ifExp (pt_cmpR (op_neN hr.units) (pv 5) (pe_lst pa_nil) (nomark _)) (pe_op op_cat (pv 5) (pe_slice sl_list (pv 5) po_none (po_some pe_int))) pe_non) pa_nil))))))))
          (pss_cons (ps_set (i := 7) sc_law_wrong.nd rfl (Or.inl rfl) (pe_ifExp (pt_cmpR op_gt (pv 2) pe_int (nomark _)) (pe_slice sl_list (pe_ix ix_list (pv 1) pe_int (fun _ _ => rfl)) po_none (po_some pe_int)) (pe_lst pa_nil)))
          (pss_one (ps_set (i := 4) sc_law_wrong.nd rfl (Or.inl rfl) (pe_op op_cat (pv 4) (pe_ifExp (pt_cmpR (op_neN hr.units) (pv 7) (pe_lst pa_nil) (nomark _)) (pe_lst (pa_cons (pe_op op_cat (pv 5) (pv 7)) pa_nil)) (pe_lst pa_nil))))))))))
        (pss_one (ps_if (pt_cmpR op_eq (pv 2) pe_int (nomark _))
            (pss_cons (ps_set (i := 8) sc_law_wrong.nd rfl (Or.inl rfl) (pe_ix ix_list (pe_op op_cat (pe_op op_cat (pe_ix ix_list (pv 1) pe_int (fun _ _ => rfl)) (pe_ix ix_list (pv 1) pe_int (fun _ _ => rfl))) (pe_lst (pa_cons pe_str pa_nil))) pe_int (fun _ _ => rfl)))
              (pss_cons (ps_set (i := 4) sc_law_wrong.nd rfl (Or.inl rfl) (pe_lst (pa_cons (pe_tup (pa_cons (pv 3) (pa_cons (pv 8) (pa_cons pe_int pa_nil)))) (pa_cons (pe_tup (pa_cons (pv 3) (pa_cons (pv 8) (pa_cons (pe_un un_neg pe_int) (pa_cons pe_int pa_nil))))) (pa_cons (pe_tup (pa_cons (pv 3) (pa_cons (pv 8) (pa_cons pe_int (pa_cons (pe_un un_neg pe_int) pa_nil))))) (pa_cons (pe_tup (pa_cons (pv 3) (pa_cons (pv 8) (pa_cons pe_bl (pa_cons pe_int pa_nil))))) pa_nil))))))
              (pss_cons (ps_expr (pe_bm PySem.F.plainAttrs_list PySem.F.slot_list_append PySem.F.type_list_append mt_append (pv 4) (pa_cons (pe_tup (pa_cons (pv 3) (pa_cons (pv 8) (pa_cons pe_int (pa_cons pe_non pa_nil))))) pa_nil)))
              (pss_cons (ps_set (i := 4) sc_law_wrong.nd rfl (Or.inl rfl) (pe_op op_cat (pv 4) (pe_lst (pa_cons (pe_tup (pa_cons pe_str (pa_cons (pv 8) (pa_cons pe_int (pa_cons pe_int pa_nil))))) (pa_cons (pe_tup (pa_cons (pv 3) (pa_cons pe_str (pa_cons pe_int (pa_cons pe_int pa_nil))))) (pa_cons (pe_lst (pa_cons (pv 3) (pa_cons (pv 8) (pa_cons pe_int (pa_cons pe_int pa_nil))))) (pa_cons pe_non (pa_cons pe_str (pa_cons (pe_tup (pa_cons (pv 3) (pa_cons pe_str (pa_cons pe_int (pa_cons pe_int pa_nil))))) pa_nil)))))))))
              (pss_cons (ps_expr (pe_bm PySem.F.plainAttrs_list PySem.F.slot_list_append PySem.F.type_list_append mt_append (pv 4) (pa_cons (pe_tup (pa_cons pe_str (pa_cons (pv 8) (pa_cons pe_int (pa_cons pe_int pa_nil))))) pa_nil)))
              (pss_cons (ps_set (i := 4) sc_law_wrong.nd rfl (Or.inl rfl) (pe_op op_cat (pv 4) (pe_ifExp (pt_cmpR (op_neN hr.units) (pe_ix ix_list (pv 1) pe_int (fun _ _ => rfl)) (pe_lst pa_nil) (nomark _)) (pe_lst (pa_cons (pe_tup (pa_cons (pv 3) (pa_cons (pe_ix ix_list (pe_ix ix_list (pv 1) pe_int (fun _ _ => rfl)) pe_int (fun _ _ => rfl)) (pa_cons pe_int (pa_cons pe_int pa_nil))))) pa_nil)) (pe_lst pa_nil))))
              (pss_cons (ps_set (i := 4) sc_law_wrong.nd rfl (Or.inl rfl) (pe_op op_cat (pv 4) (pe_lst (pa_cons (pe_tup (pa_cons (pe_ix ix_list (pe_ix ix_list (pv 1) pe_int (fun _ _ => rfl)) pe_int (fun _ _ => rfl)) (pa_cons (pv 8) (pa_cons pe_int (pa_cons pe_int pa_nil))))) (pa_cons (pe_tup (pa_cons (pv 3) (pa_cons (pe_op op_add_str (pv 8) pe_str) (pa_cons pe_int (pa_cons pe_int pa_nil))))) (pa_cons (pe_tup (pa_cons pe_non (pa_cons (pv 8) (pa_cons pe_int (pa_cons pe_int pa_nil))))) (pa_cons (pe_tup (pa_cons pe_str (pa_cons (pv 8) (pa_cons pe_int (pa_cons pe_int pa_nil))))) pa_nil)))))))
              (pss_cons (ps_set (i := 6) sc_law_wrong.nd rfl (Or.inr rfl) (pe_own o_law_take (hr.mono (by decide)) (pa_cons (pv 0) (pa_cons (pe_op op_add (pe_callB call_len_seq (by rfl) T.len PySem.boot_len (pa_cons (pe_ix ix_list (pv 1) pe_int (fun _ _ => rfl)) pa_nil)) pe_int) pa_nil))))
              (pss_one (ps_set (i := 4) sc_law_wrong.nd rfl (Or.inl rfl) (pe_op op_cat (pe_lc (own := [("one", 9)]) (g := gName 9) (tt := tYes) (te := tOp rCat (tOp rCat (tSl (rSlL K) (tOp (rIxL K) (tVar 1) (tC (.int 4))) tNoPart (tPart (tVar 6))) (tLst (tCons (tVar 9) tNil))) (tSl (rSlL K) (tOp (rIxL K) (tVar 1) (tC (.int 4))) (tPart (tVar 6)) tNoPart)) rfl sc_law_wrong.nd (pi_list (pv 4)) (blkOk_by (own := [("one", 9)]) (N := ["box", "some", "at", "first", "odd", "row", "spot", "taken", "last", "one", "inlet"]) (sc := defScope s_law_wrong) (by decide +kernel)) (fun _ _ _ _ _ => (pg_name (i := 9) sc_law_wrong.nd rfl (Or.inl rfl))) (fun _ _ _ _ _ => pts_nil) (fun _ _ _ _ _ => (pe_op op_cat (pe_op op_cat (pe_slice sl_list (pe_ix ix_list (pv 1) pe_int (fun _ _ => rfl)) po_none (po_some (pv 6))) (pe_lst (pa_cons (pv 9) pa_nil))) (pe_slice sl_list (pe_ix ix_list (pv 1) pe_int (fun _ _ => rfl)) (po_some (pv 6)) po_none)))) (pe_lst (pa_cons pe_non (pa_cons pe_int (pa_cons pe_str pa_nil)))))))))))))))
            (pss_cons (ps_set (i := 4) sc_law_wrong.nd rfl (Or.inl rfl) (pe_lst (pa_cons (pe_tup (pa_cons pe_str pa_nil)) (pa_cons (pe_tup (pa_cons pe_str (pa_cons pe_str (pa_cons pe_str pa_nil)))) (pa_cons (pe_lst (pa_cons pe_str (pa_cons pe_str pa_nil))) (pa_cons (pe_tup (pa_cons pe_str (pa_cons pe_str pa_nil))) (pa_cons (pe_tup (pa_cons pe_str (pa_cons pe_str pa_nil))) (pa_cons pe_non (pa_cons pe_str (pa_cons (pe_tup (pa_cons pe_str (pa_cons pe_int pa_nil))) pa_nil))))))))))
              (pss_cons (ps_set (i := 4) sc_law_wrong.nd rfl (Or.inl rfl) (pe_op op_cat (pe_op op_cat (pv 4) (pe_lst (pa_cons (pe_tup (pa_cons (pe_ix ix_list (pe_ix ix_list (pv 1) pe_int (fun _ _ => rfl)) pe_int (fun _ _ => rfl)) (pa_cons pe_str pa_nil))) (pa_cons (pe_tup (pa_cons (pe_ix ix_list (pe_ix ix_list (pv 1) pe_int (fun _ _ => rfl)) pe_int (fun _ _ => rfl)) (pa_cons pe_str pa_nil))) pa_nil)))) (pe_lc (own := [("inlet", 10)]) (g := gName 10) (tt := tYes) rfl sc_law_wrong.nd (pi_list (pe_slice sl_list (pe_ix ix_list (pv 1) pe_int (fun _ _ => rfl)) po_none (po_some pe_int))) (blkOk_by (own := [("inlet", 10)]) (N := ["box", "some", "at", "first", "odd", "row", "spot", "taken", "last", "one", "inlet"]) (sc := defScope s_law_wrong) (by decide +kernel)) (fun _ _ _ _ _ => (pg_name (i := 10) sc_law_wrong.nd rfl (Or.inl rfl))) (fun _ _ _ _ _ => pts_nil) (fun _ _ _ _ _ => (pe_tup (pa_cons (pv 10) (pa_cons pe_str pa_nil)))))))
              (pss_one (ps_set (i := 4) sc_law_wrong.nd rfl (Or.inl rfl) (pe_op op_cat (pe_lc (own := [("one", 9)]) (g := gName 9) (tt := tYes) (te := tOp rCat (tOp (rIxL K) (tVar 1) (tC (.int 5))) (tLst (tCons (tVar 9) tNil))) rfl sc_law_wrong.nd (pi_list (pv 4)) (blkOk_by (own := [("one", 9)]) (N := ["box", "some", "at", "first", "odd", "row", "spot", "taken", "last", "one", "inlet"]) (sc := defScope s_law_wrong) (by decide +kernel)) (fun _ _ _ _ _ => (pg_name (i := 9) sc_law_wrong.nd rfl (Or.inl rfl))) (fun _ _ _ _ _ => pts_nil) (fun _ _ _ _ _ => (pe_op op_cat (pe_ix ix_list (pv 1) pe_int (fun _ _ => rfl)) (pe_lst (pa_cons (pv 9) pa_nil))))) (pe_lst (pa_cons (pe_op op_cat (pe_ix ix_list (pv 1) pe_int (fun _ _ => rfl)) (pe_lst (pa_cons (pe_tup (pa_cons pe_str (pa_cons pe_str pa_nil))) (pa_cons (pe_tup (pa_cons pe_str (pa_cons pe_str pa_nil))) pa_nil)))) pa_nil))))))))))))
  (pss_one (ps_ret (pe_op op_cat (pe_op op_cat (pe_slice sl_list (pv 1) po_none (po_some (pv 2))) (pe_lst (pa_cons (pe_own o_law_pick (hr.mono (by decide)) (pa_cons (pv 0) (pa_cons (pv 4) pa_nil))) pa_nil))) (pe_slice sl_list (pv 1) (po_some (pe_op op_add (pv 2) pe_int)) po_none)))))), ?_⟩
    have g0 : Go b G H G H := Go.refl sG hb Gb
    have okN : ∀ {y : Str}, nameS y = true → okS y = true := fun h => okS_name h
    -- the first end
    obtain ⟨f, hf, hfn⟩ : ∃ f, (m.inl.map PyData.str ++ m.sta.map PyData.str ++ [PyData.str "a"])[0]? = some (PyData.str f) ∧ nameS f = true := by
      cases e : m.inl with
      | cons x r => exact ⟨x, rfl, B.nameS (in_inl (by rw [e]; exact List.mem_cons_self ..))⟩
      | nil =>
        cases e2 : m.sta with
        | cons x r => exact ⟨x, rfl, B.nameS (in_sta (by rw [e2]; exact List.mem_cons_self ..))⟩
        | nil => exact ⟨"a", rfl, by decide +kernel⟩
    have hi := B.inl
    have ho := B.out
    have hs := B.sta
    have hc := B.few
    have hl8 := O.lks
    have okf := okN hfn
    refine use_D (.str f) sG (MkD.ix ((MkL.cat ((MkL.cat (MkD.ix (n := 1) (MkD.var rfl dA) (MkD.num 1 rfl) rfl) (MkD.ix (n := 3) (MkD.var rfl dA) (MkD.num 3 rfl) rfl) (by simp only [List.length_map]; omega)).dat (by simp only [List.length_map, List.length_append]; omega)) (MkD.lst (MkA.cons (MkD.str (by decide +kernel)) MkA.nil) (by decide)) (by simp only [List.length_map, List.length_append, List.length_cons, List.length_nil]; omega)).dat (by simp only [List.length_map, List.length_append, List.length_cons, List.length_nil]; omega)) (MkD.num 0 rfl) hf) fun v0 G1 H1 r1 dv => ?_
    cases dv
    have g1 := g0.gr r1
    have dA1 := dA.same r1.gs
    refine ⟨fun σ' H' => ∃ (G' : Hp) (o : Addr) (ds : List PyData) (y5 y6 y7 y8 y9 y10 : Option V), σ' = [some (.ref b), some (.ref a), some (.int (k : Nat)), some (.str f), some (.ref o), y5, y6, y7, y8, y9, y10] ∧ Go b G H G' H' ∧ Dv G' (.ref a) (.list (args m)) ∧ Dv G' (.ref o) (.list ds) ∧ ds ≠ [] ∧ ds.length < 900 ∧ ∀ d ∈ ds, BadAt m k d, ?_, ?_⟩
    · clear kk
      have okf1 := okf
      refine ⟨_, rfl, rfl, _, rfl, ?_⟩
      refine ite2 (fun c0 => ?_) (fun c0 => ?_)
      · -- the name
        have k0 : k = 0 := by
          have := V.int.inj (of_decide_eq_true c0)
          omega
        subst k0
        refine st_set1 ?_
        refine use_D (.list [.str "", .str "abcdef", .str "A", .str "a1", .none, .int 3, .list [.str "a"], .str "a.b", .str " a"]) g1.gh (by repeat walk_at "mk") fun v G2 H2 r2 d2 => ?_
        cases d2 with
        | @lst o xs _ eo hx _ =>
        refine ⟨G2, o, [.str "", .str "abcdef", .str "A", .str "a1", .none, .int 3, .list [.str "a"], .str "a.b", .str " a"], _, _, _, _, _, _, rfl, g1.gr r2, dA1.same r2.gs, .lst eo hx (by decide), by simp, by decide, fun d hd => bad_0 ?_⟩
        have : ∀ d ∈ ([.str "", .str "abcdef", .str "A", .str "a1", .none, .int 3, .list [.str "a"], .str "a.b", .str " a"] : List PyData), isNameD d = false := by decide +kernel
        exact this d hd
      · have k0 : k ≠ 0 := fun q => c0 (decide_eq_true (by rw [q]; rfl))
        refine ⟨_, rfl, _, _, rfl, rfl, _, rfl, ?_⟩
        refine ite2 (fun c4 => ?_) (fun c4 => ?_)
        · -- a row
          have k4 : k < 4 := by
            have := of_decide_eq_true c4
            omega
          have h0 : 0 < k := by omega
          have rl := row_len B k
          obtain ⟨rs, hrs⟩ : ∃ rs, rs = (rowOf m k).map PyData.str := ⟨_, rfl⟩
          have hrl : rs.length ≤ 2 := by rw [hrs, List.length_map]; exact rl
          have hrow : (args m)[k]? = some (.list rs) := by rw [hrs]; exact args_row h0 k4
          refine st_set ?_
          refine use_D (.list rs) g1.gh (MkD.ix (n := k) (MkD.var rfl dA1) (MkD.var rfl (.int _)) hrow) fun v5 G2 H2 r2 d5 => ?_
          have g2 := g1.gr r2
          have dA2 := dA1.same r2.gs
          obtain ⟨A5, ys, rfl, e5, ly⟩ : ∃ A5 ys, v5 = .ref A5 ∧ G2 A5 = some (.lst ys) ∧ ys.length = rs.length := by
            cases d5 with
            | lst e h _ => exact ⟨_, _, rfl, e, h.len⟩
          clear r2 dA1 g1
          refine st_set ?_
          refine ⟨_, rfl, _, rfl, A5, _, rfl, Or.inl (SqL.of (g2.gh _ _ e5)), _, _, rfl, rfl, b, ys.length + 1, rfl, Nat.succ_pos _, by omega, g2.box, fun H3 sp hsp bx box => ?_⟩
          have g3 := g2.take bx box
          clear g2 bx box
          -- a thing put in
          refine st_set ?_
          refine use_D (.list (([.str "", .str "abcdef", .str "Up", .none, .int 3, .list [.str "a"], .str "a.b"] : List PyData).map fun d => .list (rs.take sp ++ [d] ++ rs.drop sp))) g3.gh ((MkL.lcT (fun d => .list (rs.take sp ++ [d] ++ rs.drop sp)) (by repeat walk_at "mk") (fun _ => rfl)
            (fun G' x d s hd hx => (MkL.cat ((MkL.cat ((MkL.slTo (MkD.var rfl (d5.same s)) (MkD.var rfl (.int _))).dat (by walk_at "ln")) (MkD.lst (MkA.cons (MkD.var rfl hx) MkA.nil) (Nat.le_of_ble_eq_true rfl)) (by walk_at "ln")).dat (by walk_at "ln")) ((MkL.slFrom (MkD.var rfl (d5.same s)) (MkD.var rfl (.int _))).dat (by walk_at "ln")) (by walk_at "ln")).dat (by walk_at "ln")) (by decide)).dat (by walk_at "ln")) fun v6 G4 H4 r4 d6 => ?_
          have g4 := g3.gr r4
          have d5 := d5.same r4.gs
          have dA4 := dA2.same r4.gs
          clear g3 r4 dA2 e5
          -- a thing of another kind, a name twice
          obtain ⟨lastD, hMk, hBad⟩ : ∃ lastD, (∀ (σ : L2.St) (G' : Hp), σ[5]? = some (some (.ref A5)) → Dv G' (.ref A5) (.list rs) → MkD (tIf (tTest (tOp (rNeN K) (tVar 5) (tLst tNil))) (tOp rCat (tVar 5) (tSl (rSlL K) (tVar 5) tNoPart (tPart (tC (.int 1))))) (tC .non)) σ G' lastD) ∧ BadAt m k lastD := by
            by_cases he : rowOf m k = []
            · refine ⟨.none, fun σ G' hv hd => MkD.ifNe (MkD.var hv hd) (fun q => absurd (by rw [hrs, he]; rfl) q) (fun _ => MkD.non), bad_kind B h0 k4 rfl⟩
            · refine ⟨.list (rs ++ rs.take 1), fun σ G' hv hd => MkD.ifNe (MkD.var hv hd) (fun _ => (MkL.cat (MkD.var hv hd) ((MkL.slTo (MkD.var hv hd) (MkD.num 1 rfl)).dat (by walk_at "ln")) (by walk_at "ln")).dat (by walk_at "ln")) (fun q => absurd (List.map_eq_nil_iff.mp (hrs ▸ q)) he), by rw [hrs]; exact bad_twice B h0 k4 he⟩
          refine st_set ?_
          refine use_D (.list (([.str "", .str "abcdef", .str "Up", .none, .int 3, .list [.str "a"], .str "a.b"] : List PyData).map (fun d => .list (rs.take sp ++ [d] ++ rs.drop sp)) ++ [.none, .int 3, .str "a", .bool true, lastD])) g4.gh ((MkL.cat (MkD.var rfl d6) (MkD.lst (MkA.cons MkD.non (MkA.cons (MkD.int _) (MkA.cons (MkD.str (by decide +kernel)) (MkA.cons (MkD.bl _) (MkA.cons (hMk _ _ rfl d5) MkA.nil))))) (by simp)) (by simp)).dat (by simp)) fun v7 G5 H5 r5 d7 => ?_
          have g5 := g4.gr r5
          have d5 := d5.same r5.gs
          have dA5 := dA4.same r5.gs
          clear g4 r5 dA4 hMk d6
          -- what is taken
          obtain ⟨tk, hMk, htl, htk⟩ : ∃ tk : List PyData, (∀ (σ : L2.St) (G' : Hp), σ[1]? = some (some (.ref a)) → σ[2]? = some (some (.int (k : Nat))) → Dv G' (.ref a) (.list (args m)) → MkD (tIf (tTest (tOp (rI0 fun i j => .bl (decide (j < i))) (tVar 2) (tC (.int 1)))) (tSl (rSlL K) (tOp (rIxL K) (tVar 1) (tC (.int 1))) tNoPart (tPart (tC (.int 1)))) (tLst tNil)) σ G' (.list tk)) ∧ tk.length ≤ 1 ∧ (tk ≠ [] → 1 < k ∧ m.inl ≠ [] ∧ tk = (m.inl.map PyData.str).take 1) := by
            by_cases h1 : 1 < k
            · refine ⟨(m.inl.map PyData.str).take 1, fun σ G' h1' h2' hd => MkD.ifGt (MkD.var h2' (.int _)) (MkD.int 1) (fun _ => (MkL.slTo (MkD.ix (n := 1) (MkD.var h1' hd) (MkD.num 1 rfl) rfl) (MkD.num 1 rfl)).dat (by walk_at "ln")) (fun q => absurd (by omega) q), by walk_at "ln", fun q => ⟨h1, fun e => q (by rw [e]; rfl), rfl⟩⟩
            · refine ⟨[], fun σ G' h1' h2' hd => MkD.ifGt (MkD.var h2' (.int _)) (MkD.int 1) (fun q => absurd q (by omega)) (fun _ => MkD.lst MkA.nil (by decide)), by decide, fun q => absurd rfl q⟩
          refine st_set ?_
          refine use_D (.list tk) g5.gh (hMk _ _ rfl rfl dA5) fun v8 G6 H6 r6 d8 => ?_
          have g6 := g5.gr r6
          have d5 := d5.same r6.gs
          have d7 := d7.same r6.gs
          have dA6 := dA5.same r6.gs
          clear g5 r6 dA5 hMk
          obtain ⟨tl, hMk, hll, hlb⟩ : ∃ tl : List PyData, (∀ (σ : L2.St) (G' : Hp), σ[5]? = some (some (.ref A5)) → σ[7]? = some (some v8) → Dv G' (.ref A5) (.list rs) → Dv G' v8 (.list tk) → MkD (tIf (tTest (tOp (rNeN K) (tVar 7) (tLst tNil))) (tLst (tCons (tOp rCat (tVar 5) (tVar 7)) tNil)) (tLst tNil)) σ G' (.list tl)) ∧ tl.length ≤ 1 ∧ ∀ d ∈ tl, BadAt m k d := by
            by_cases ht : tk = []
            · exact ⟨[], fun σ G' h1 h2 hd ht' => MkD.ifNe (MkD.var h2 ht') (fun q => absurd ht q) (fun _ => MkD.lst MkA.nil (by decide)), by decide, fun d hd => nomatch hd⟩
            · obtain ⟨t1, t2, t3⟩ := htk ht
              refine ⟨[.list (rs ++ tk)], fun σ G' h1 h2 hd ht' => MkD.ifNe (MkD.var h2 ht') (fun _ => MkD.lst (MkA.cons ((MkL.cat (MkD.var h1 hd) (MkD.var h2 ht') (by walk_at "ln")).dat (by walk_at "ln")) MkA.nil) (Nat.le_of_ble_eq_true rfl)) (fun q => absurd q ht), Nat.le_of_ble_eq_true rfl, fun d hd => ?_⟩
              rw [List.mem_singleton.mp hd, hrs, t3]
              exact bad_taken B t1 k4 t2
          refine st_set1 ?_
          refine use_D _ g6.gh ((MkL.cat (MkD.var rfl d7) (hMk _ _ rfl rfl d5 d8) (by simp; omega)).dat (by simp; omega)) fun v9 G7 H7 r7 d9 => ?_
          have g7 := g6.gr r7
          obtain ⟨o, rfl⟩ : ∃ o, v9 = .ref o := by
            cases d9 with
            | lst e h _ => exact ⟨_, rfl⟩
          refine ⟨G7, o, _, _, _, _, _, _, _, rfl, g7, dA6.same r7.gs, d9, by simp, by simp; omega, fun d hd => ?_⟩
          rcases List.mem_append.mp hd with hd | hd
          · rcases List.mem_append.mp hd with hd | hd
            · obtain ⟨z, hz, rfl⟩ := List.mem_map.mp hd
              have : ∀ d ∈ ([.str "", .str "abcdef", .str "Up", .none, .int 3, .list [.str "a"], .str "a.b"] : List PyData), isNameD d = false := by decide +kernel
              rw [hrs]
              exact bad_put B h0 k4 sp (this z hz)
            · simp only [List.mem_cons, List.not_mem_nil, or_false] at hd
              rcases hd with rfl | rfl | rfl | rfl | rfl
              · exact bad_kind B h0 k4 rfl
              · exact bad_kind B h0 k4 rfl
              · exact bad_kind B h0 k4 rfl
              · exact bad_kind B h0 k4 rfl
              · exact hBad
          · exact hlb d hd
        · have k4 : ¬ k < 4 := fun q => c4 (decide_eq_true (by omega))
          refine ⟨_, rfl, rfl, _, rfl, ?_⟩
          refine ite2 (fun c5 => ?_) (fun c5 => ?_)
          · -- the links
            have e4 : k = 4 := by
              have := V.int.inj (of_decide_eq_true c5)
              omega
            subst e4
            clear c0 k0 c4 k4 c5 hk
            obtain ⟨l, hl, hln⟩ : ∃ l, (m.sta.map PyData.str ++ m.out.map PyData.str ++ [PyData.str "a"])[0]? = some (PyData.str l) ∧ nameS l = true := by
              cases e : m.sta with
              | cons x r => exact ⟨x, rfl, B.nameS (in_sta (by rw [e]; exact List.mem_cons_self ..))⟩
              | nil =>
                have := B.sta0
                rw [e] at this
                exact absurd this (by decide)
            have okl := okN hln
            obtain ⟨o0, ho0⟩ : ∃ o0, (m.out.map PyData.str)[0]? = some (PyData.str o0) ∧ o0 ∈ m.out := by
              cases e : m.out with
              | cons x r => exact ⟨x, rfl, List.mem_cons_self ..⟩
              | nil =>
                have := B.out0
                rw [e] at this
                exact absurd this (by decide)
            have oko := okN (B.nameS (in_out ho0.2))
            have okd := okS_dot hln
            have lenl : l.length ≤ 1000 := of_decide_eq_true (Bool.and_eq_true_iff.mp okl).2
            refine st_set ?_
            refine use_D (.str l) g1.gh (MkD.ix ((MkL.cat ((MkL.cat (MkD.ix (n := 3) (MkD.var rfl dA1) (MkD.num 3 rfl) rfl) (MkD.ix (n := 2) (MkD.var rfl dA1) (MkD.num 2 rfl) rfl) (by walk_at "ln")).dat (by walk_at "ln")) (MkD.lst (MkA.cons (MkD.str (by decide +kernel)) MkA.nil) (by decide)) (by walk_at "ln")).dat (by walk_at "ln")) (MkD.num 0 rfl) hl) fun v8 G2 H2 r2 d8 => ?_
            cases d8
            have g2 := g1.gr r2
            have dA2 := dA1.same r2.gs
            clear g1 r2 dA1
            -- the first ones, then one more
            refine st_set ?_
            refine use_L (ones1 f l) g2.gh (MkL.lst (by repeat walk_at "mk") (Nat.le_of_ble_eq_true rfl)) fun p3 w3 G3 H3 r3 n3 m3 e3 d3 => ?_
            have g3 := g2.gr r3
            have dA3 := dA2.same r3.gs
            have p3b := g2.ne n3
            have p30 := g2.free0 n3
            clear g2 r3 dA2 n3
            refine st_seq (st_drop (st_bm ?_))
            refine ⟨_, rfl, Or.inl ⟨rfl, _, SqL.of e3⟩, ?_⟩
            refine use_A [one1 f l] g3.gh (by unfold one1; repeat walk_at "mk") fun ws4 G4 H4 r4 d4 => ?_
            obtain ⟨x4, _, rfl, dx4, dn4⟩ := d4.inv
            obtain rfl := dn4.inv0
            have g4 := g3.gr r4
            have m4 := r4.nn _ _ e3 m3
            refine ⟨p3, w3, x4, rfl, rfl, r4.hs _ _ e3, small1000_2 (by rw [d3.len]; exact Nat.le_of_ble_eq_true rfl), ?_⟩
            have g5 := (g4.change (o := .lst (w3 ++ [x4])) p30 m4 p3b).freeze p30 upd_same m4 p3b
            have d5 : Dv (upd G4 p3 (.lst (w3 ++ [x4]))) (.ref p3) (.list (ones1 f l ++ [one1 f l])) := .lst upd_same (((d3.same r4.gs).app (.cons dx4 .nil)).same (same_upd m4)) (Nat.le_of_ble_eq_true rfl)
            have dA5 := (dA3.same r4.gs).same (same_upd (o := .lst (w3 ++ [x4])) m4)
            generalize upd G4 p3 (.lst (w3 ++ [x4])) = G5 at g5 d5 dA5
            generalize upd H4 p3 (.lst (w3 ++ [x4])) = H5 at g5 ⊢
            clear g3 g4 dA3 r4 d3 e3 m3 m4 dx4 dn4 d4
            -- more, and one more
            dsimp only
            refine st_set ?_
            refine use_L (ones1 f l ++ [one1 f l] ++ ones2 f l) g5.gh (MkL.cat (MkD.var rfl d5) (by unfold ones2 t4; repeat walk_at "mk") (Nat.le_of_ble_eq_true rfl)) fun p6 w6 G6 H6 r6 n6 m6 e6 d6 => ?_
            have g6 := g5.gr r6
            have dA6 := dA5.same r6.gs
            have p6b := g5.ne n6
            have p60 := g5.free0 n6
            clear g5 r6 dA5 n6 d5
            refine st_seq (st_drop (st_bm ?_))
            refine ⟨_, rfl, Or.inl ⟨rfl, _, SqL.of e6⟩, ?_⟩
            refine use_A [one2 l] g6.gh (by unfold one2 t4; repeat walk_at "mk") fun ws7 G7 H7 r7 d7 => ?_
            obtain ⟨x7, _, rfl, dx7, dn7⟩ := d7.inv
            obtain rfl := dn7.inv0
            have g7 := g6.gr r7
            have m7 := r7.nn _ _ e6 m6
            refine ⟨p6, w6, x7, rfl, rfl, r7.hs _ _ e6, small1000_2 (by rw [d6.len]; exact Nat.le_of_ble_eq_true rfl), ?_⟩
            obtain ⟨odd, hodd⟩ : ∃ odd, odd = ones1 f l ++ [one1 f l] ++ ones2 f l ++ [one2 l] := ⟨_, rfl⟩
            have lodd : odd.length = 12 := by rw [hodd]; rfl
            have g8 := (g7.change (o := .lst (w6 ++ [x7])) p60 m7 p6b).freeze p60 upd_same m7 p6b
            have d8 : Dv (upd G7 p6 (.lst (w6 ++ [x7]))) (.ref p6) (.list odd) := by
              rw [hodd]
              exact .lst upd_same (((d6.same r7.gs).app (.cons dx7 .nil)).same (same_upd m7)) (Nat.le_of_ble_eq_true rfl)
            have dA8 := (dA6.same r7.gs).same (same_upd (o := .lst (w6 ++ [x7])) m7)
            generalize upd G7 p6 (.lst (w6 ++ [x7])) = G8 at g8 d8 dA8
            generalize upd H7 p6 (.lst (w6 ++ [x7])) = H8 at g8 ⊢
            clear g6 g7 dA6 r7 d6 e6 m6 m7 dx7 dn7 d7
            have bodd : ∀ d ∈ odd, BadLink m d := by
              rw [hodd]
              intro d hd
              rcases List.mem_append.mp hd with hd | hd
              · rcases List.mem_append.mp hd with hd | hd
                · rcases List.mem_append.mp hd with hd | hd
                  · exact ones1_bad d hd
                  · rw [List.mem_singleton.mp hd]
                    exact one1_bad
                · exact ones2_bad B d hd
              · rw [List.mem_singleton.mp hd]
                exact one2_bad B
            clear hodd
            dsimp only
            -- an inlet as an end
            obtain ⟨o3, hMk, l3, b3⟩ : ∃ o3 : List PyData, (∀ (σ : L2.St) (G' : Hp), σ[1]? = some (some (.ref a)) → σ[3]? = some (some (.str f)) → Dv G' (.ref a) (.list (args m)) → MkD (tIf (tTest (tOp (rNeN K) (tOp (rIxL K) (tVar 1) (tC (.int 1))) (tLst tNil))) (tLst (tCons (tTup (tCons (tVar 3) (tCons (tOp (rIxL K) (tOp (rIxL K) (tVar 1) (tC (.int 1))) (tC (.int 0))) (tCons (tC (.int 1)) (tCons (tC (.int 0)) tNil))))) tNil)) (tLst tNil)) σ G' (.list o3)) ∧ o3.length ≤ 1 ∧ ∀ d ∈ o3, BadLink m d := by
              cases e : m.inl with
              | nil =>
                refine ⟨[], fun σ G' h1 h2 hd => MkD.ifNe (MkD.ix (n := 1) (MkD.var h1 hd) (MkD.num 1 rfl) (d := strL m.inl) rfl) (fun q => absurd (by rw [e]; rfl) q) (fun _ => MkD.lst MkA.nil (by decide)), by decide, fun d hd => nomatch hd⟩
              | cons x r =>
                refine ⟨[t4 f x 1 0], fun σ G' h1 h2 hd => MkD.ifNe (MkD.ix (n := 1) (MkD.var h1 hd) (MkD.num 1 rfl) (d := strL m.inl) rfl) (fun _ => MkD.lst (MkA.cons (MkD.tup (MkA.cons (MkD.var h2 (.str okf)) (MkA.cons (MkD.ix (n := 0) (MkD.ix (n := 1) (MkD.var h1 hd) (MkD.num 1 rfl) (d := strL m.inl) rfl) (MkD.num 0 rfl) (by rw [e]; rfl)) (MkA.cons (MkD.int _) (MkA.cons (MkD.int _) MkA.nil)))) (Nat.le_of_ble_eq_true rfl)) MkA.nil) (Nat.le_of_ble_eq_true rfl)) (fun q => absurd q (by rw [e]; simp)), Nat.le_of_ble_eq_true rfl, fun d hd => ?_⟩
                rw [List.mem_singleton.mp hd]
                exact ones3_bad B (by rw [e]; exact List.mem_cons_self ..)
            refine st_set ?_
            refine use_D (.list (odd ++ o3)) g8.gh ((MkL.cat (MkD.var rfl d8) (hMk _ _ rfl rfl dA8) (by walk_at "ln")).dat (by walk_at "ln")) fun v9 G9 H9 r9 d9 => ?_
            have g9 := g8.gr r9
            have dA9 := dA8.same r9.gs
            clear g8 r9 dA8 hMk d8
            refine st_set ?_
            refine use_D (.list (odd ++ o3 ++ ones4 f l o0)) g9.gh ((MkL.cat (MkD.var rfl d9) (MkD.lst (MkA.cons (MkD.tup (MkA.cons (MkD.ix (n := 0) (MkD.ix (n := 2) (MkD.var rfl dA9) (MkD.num 2 rfl) (d := strL m.out) rfl) (MkD.num 0 rfl) ho0.1) (by repeat walk_at "mk")) (Nat.le_of_ble_eq_true rfl)) (MkA.cons (MkD.tup (MkA.cons (MkD.var rfl (.str okf)) (MkA.cons (MkD.sadd (MkD.var rfl (.str okl)) (MkD.str (by decide +kernel)) okd (by show l.length + 1 ≤ 4000; omega)) (by repeat walk_at "mk"))) (Nat.le_of_ble_eq_true rfl)) (by repeat walk_at "mk"))) (Nat.le_of_ble_eq_true rfl)) (by show (odd ++ o3).length + 4 ≤ 4000; walk_at "ln")).dat (by show ((odd ++ o3) ++ _).length ≤ 2000; rw [List.length_append]; show (odd ++ o3).length + 4 ≤ 2000; walk_at "ln")) fun v10 G10 H10 r10 d10 => ?_
            have g10 := g9.gr r10
            have dA10 := dA9.same r10.gs
            clear g9 r10 dA9 d9
            obtain ⟨ones, hones⟩ : ∃ ones, ones = odd ++ o3 ++ ones4 f l o0 := ⟨_, rfl⟩
            have lones : ones.length ≤ 17 := by rw [hones, List.length_append]; show (odd ++ o3).length + 4 ≤ 17; walk_at "ln"
            have bones : ∀ d ∈ ones, BadLink m d := by
              rw [hones]
              intro d hd
              rcases List.mem_append.mp hd with hd | hd
              · rcases List.mem_append.mp hd with hd | hd
                · exact bodd d hd
                · exact b3 d hd
              · exact ones4_bad B ho0.2 hln d hd
            rw [← hones] at d10
            clear hones bodd b3
            -- spot
            obtain ⟨ls, hls⟩ : ∃ ls, ls = m.links.map linkD := ⟨_, rfl⟩
            have hll : ls.length ≤ 8 := by rw [hls, List.length_map]; exact hl8
            have hix : (args m)[4]? = some (.list ls) := by rw [hls]; rfl
            refine st_set ?_
            obtain ⟨xsA, zA, eA, hzA, d11⟩ : ∃ xsA zA, G10 a = some (.lst xsA) ∧ xsA[4]? = some zA ∧ Dv G10 zA (.list ls) := by
              cases dA10 with
              | @lst _ xs _ e h _ =>
                obtain ⟨z, hz, dz⟩ := h.at hix
                exact ⟨xs, z, e, hz, dz⟩
            have dA11 := dA10
            cases d11 with
            | @lst A11 ys _ e11 h11 _ =>
            refine ⟨_, rfl, _, rfl, a, xsA, 4, _, rfl, rfl, SqL.of (g10.gh _ _ eA), (show atI _ ((4 : Nat) : Int) = some _ from atI_nat hzA), A11, _, rfl, Or.inl (SqL.of (g10.gh _ _ e11)), _, _, rfl, rfl, b, ys.length + 1, rfl, Nat.succ_pos _, by rw [h11.len]; omega, g10.box, fun H12 sp hsp bx box => ?_⟩
            have g11 := g10
            have g12 := g11.take bx box
            clear g11 bx box
            refine st_set1 ?_
            refine use_D (.list (ones.map (fun d => .list (ls.take sp ++ [d] ++ ls.drop sp)) ++ [.none, .int 3, .str "a"])) g12.gh ((MkL.cat ((MkL.lc (fun d => .list (ls.take sp ++ [d] ++ ls.drop sp)) (MkD.var rfl d10) (fun _ => rfl)
              (fun G' x d s hd hx => (MkL.cat ((MkL.cat ((MkL.slTo (MkD.ix (n := 4) (MkD.var rfl (dA11.same s)) (MkD.num 4 rfl) hix) (MkD.var rfl (.int _))).dat (by walk_at "ln")) (MkD.lst (MkA.cons (MkD.var rfl hx) MkA.nil) (Nat.le_of_ble_eq_true rfl)) (by walk_at "ln")).dat (by walk_at "ln")) ((MkL.slFrom (MkD.ix (n := 4) (MkD.var rfl (dA11.same s)) (MkD.num 4 rfl) hix) (MkD.var rfl (.int _))).dat (by walk_at "ln")) (by walk_at "ln")).dat (by walk_at "ln")) (by omega)).dat (by walk_at "ln")) (by repeat walk_at "mk") (by walk_at "ln")).dat (by walk_at "ln")) fun v13 G13 H13 r13 d13 => ?_
            have g13 := g12.gr r13
            obtain ⟨o, rfl⟩ : ∃ o, v13 = .ref o := by
              cases d13 with
              | lst e h _ => exact ⟨_, rfl⟩
            refine ⟨G13, o, _, _, _, _, _, _, _, rfl, g13, dA11.same r13.gs, d13, by simp, by walk_at "ln", fun d hd => ?_⟩
            rcases List.mem_append.mp hd with hd | hd
            · obtain ⟨z, hz, rfl⟩ := List.mem_map.mp hd
              rw [hls]
              exact bad_4put B (bones z hz) sp
            · simp only [List.mem_cons, List.not_mem_nil, or_false] at hd
              rcases hd with rfl | rfl | rfl
              · exact bad_4kind B rfl
              · exact bad_4kind B rfl
              · exact bad_4kind B rfl
          · -- the calls
            have e5 : k = 5 := by
              have : k ≠ 4 := fun q => c5 (decide_eq_true (by rw [q]; rfl))
              omega
            subst e5
            clear c0 k0 c4 k4 c5 hk
            obtain ⟨o0, ho0, ho1⟩ : ∃ o0, (m.out.map PyData.str)[0]? = some (PyData.str o0) ∧ o0 ∈ m.out := by
              cases e : m.out with
              | cons x r => exact ⟨x, rfl, List.mem_cons_self ..⟩
              | nil =>
                have := B.out0
                rw [e] at this
                exact absurd this (by decide)
            obtain ⟨s0, hs0, hs1⟩ : ∃ s0, (m.sta.map PyData.str)[0]? = some (PyData.str s0) ∧ s0 ∈ m.sta := by
              cases e : m.sta with
              | cons x r => exact ⟨x, rfl, List.mem_cons_self ..⟩
              | nil =>
                have := B.sta0
                rw [e] at this
                exact absurd this (by decide)
            refine st_set ?_
            refine use_D (.list cones1) g1.gh (by unfold cones1; repeat walk_at "mk") fun v4 G2 H2 r2 d4 => ?_
            have g2 := g1.gr r2
            have dA2 := dA1.same r2.gs
            clear g1 r2 dA1
            obtain ⟨is_, his⟩ : ∃ is_, is_ = (m.inl.map PyData.str).take 1 := ⟨_, rfl⟩
            have lis : is_.length ≤ 1 := by rw [his, List.length_take]; omega
            have iss : ∀ d ∈ is_, ∃ x ∈ m.inl, d = .str x := by
              intro d hd
              rw [his, ← List.map_take] at hd
              obtain ⟨x, hx, rfl⟩ := List.mem_map.mp hd
              exact ⟨x, List.mem_of_mem_take hx, rfl⟩
            obtain ⟨ones, hones⟩ : ∃ ones, ones = cones1 ++ [cone2 o0, cone2 s0] ++ is_.map (fun d => .tuple [d, .str "r"]) := ⟨_, rfl⟩
            have lones : ones.length ≤ 11 := by
              rw [hones, List.length_append, List.length_map]
              show 10 + is_.length ≤ 11
              omega
            have bones : ∀ d ∈ ones, BadCall m d := by
              rw [hones]
              intro d hd
              rcases List.mem_append.mp hd with hd | hd
              · rcases List.mem_append.mp hd with hd | hd
                · exact cones1_bad d hd
                · simp only [List.mem_cons, List.not_mem_nil, or_false] at hd
                  rcases hd with rfl | rfl
                  · exact cone2_bad (List.mem_append_right _ (List.mem_append_left _ ho1))
                  · exact cone2_bad (List.mem_append_right _ (List.mem_append_right _ hs1))
              · obtain ⟨z, hz, rfl⟩ := List.mem_map.mp hd
                obtain ⟨x, hx, rfl⟩ := iss z hz
                exact cone2_bad (List.mem_append_left _ hx)
            refine st_set ?_
            refine use_D (.list ones) g2.gh ((MkL.dat (MkL.cat ((MkL.cat (MkD.var rfl d4) (MkD.lst (ds := [cone2 o0, cone2 s0]) (MkA.cons (MkD.tup (MkA.cons (MkD.ix (n := 0) (MkD.ix (n := 2) (MkD.var rfl dA2) (MkD.num 2 rfl) (d := strL m.out) rfl) (MkD.num 0 rfl) ho0) (by repeat walk_at "mk")) (Nat.le_of_ble_eq_true rfl)) (MkA.cons (MkD.tup (MkA.cons (MkD.ix (n := 0) (MkD.ix (n := 3) (MkD.var rfl dA2) (MkD.num 3 rfl) (d := strL m.sta) rfl) (MkD.num 0 rfl) hs0) (by repeat walk_at "mk")) (Nat.le_of_ble_eq_true rfl)) MkA.nil)) (Nat.le_of_ble_eq_true rfl)) (Nat.le_of_ble_eq_true rfl)).dat (Nat.le_of_ble_eq_true rfl))
              ((MkL.lc (ds := is_) (fun d => .tuple [d, .str "r"]) (by rw [his]; exact (MkL.slTo (MkD.ix (n := 1) (MkD.var rfl dA2) (MkD.num 1 rfl) (d := strL m.inl) rfl) (MkD.num 1 rfl)).dat (by walk_at "ln")) (fun _ => rfl)
                (fun G' x d s hd hx => MkD.tup (MkA.cons (MkD.var rfl hx) (MkA.cons (MkD.str (by decide +kernel)) MkA.nil)) (Nat.le_of_ble_eq_true rfl)) (by omega)).dat (by walk_at "ln")) (by show 10 + (is_.map _).length ≤ 4000; rw [List.length_map]; omega)) (by rw [← hones]; omega)).cast (by rw [hones])) fun v5 G3 H3 r3 d5 => ?_
            have g3 := g2.gr r3
            have dA3 := dA2.same r3.gs
            clear g2 r3 dA2 d4 hones
            obtain ⟨cs, hcs⟩ : ∃ cs, cs = m.calls.map callD := ⟨_, rfl⟩
            have hcl : cs.length ≤ 2 := by rw [hcs, List.length_map]; exact hc
            have hix : (args m)[5]? = some (.list cs) := by rw [hcs]; rfl
            refine st_set1 ?_
            refine use_D (.list (ones.map (fun d => .list (cs ++ [d])) ++ [.list (cs ++ [.tuple [.str "q", .str "r"], .tuple [.str "q", .str "s"]])])) g3.gh ((MkL.cat ((MkL.lc (fun d => .list (cs ++ [d])) (MkD.var rfl d5) (fun _ => rfl)
              (fun G' x d s hd hx => (MkL.cat (MkD.ix (n := 5) (MkD.var rfl (dA3.same s)) (MkD.num 5 rfl) hix) (MkD.lst (MkA.cons (MkD.var rfl hx) MkA.nil) (Nat.le_of_ble_eq_true rfl)) (by walk_at "ln")).dat (by walk_at "ln")) (by omega)).dat (by walk_at "ln"))
              (MkD.lst (MkA.cons ((MkL.cat (MkD.ix (n := 5) (MkD.var rfl dA3) (MkD.num 5 rfl) hix) (by repeat walk_at "mk") (by walk_at "ln")).dat (by walk_at "ln")) MkA.nil) (Nat.le_of_ble_eq_true rfl)) (by walk_at "ln")).dat (by walk_at "ln")) fun v6 G4 H4 r4 d6 => ?_
            have g4 := g3.gr r4
            obtain ⟨o, rfl⟩ : ∃ o, v6 = .ref o := by
              cases d6 with
              | lst e h _ => exact ⟨_, rfl⟩
            refine ⟨G4, o, _, _, _, _, _, _, _, rfl, g4, dA3.same r4.gs, d6, by simp, by walk_at "ln", fun d hd => ?_⟩
            rcases List.mem_append.mp hd with hd | hd
            · obtain ⟨z, hz, rfl⟩ := List.mem_map.mp hd
              rw [hcs]
              exact bad_5one M O (bones z hz)
            · rw [List.mem_singleton.mp hd, hcs]
              exact bad_5two M O
    · rintro σ' H2 ⟨G2, o, ds, y5, y6, y7, y8, y9, y10, rfl, g2, dA2, dO, dne, dlen, hbad⟩
      clear g1 dA1 r1 g0
      refine st_ret (st_op (st_op ?_))
      refine use_D (.list ((args m).take k)) g2.gh ((MkL.slTo (MkD.var rfl dA2) (MkD.var rfl (.int _))).dat (by rw [List.length_take]; exact Nat.le_trans (Nat.min_le_right _ _) (by show 6 ≤ 2000; decide))) fun v3 G3 H3 r3 d3 => ?_
      have g3 := g2.gr r3
      have dO3 := dO.same r3.gs
      cases dO3 with
      | @lst _ xs _ eo ho _ =>
      have ob : o ≠ b := fun q => by
        rw [q, g3.gb] at eo
        cases eo
      refine ⟨_, rfl, _, rfl, b, o, xs, rfl, g3.box, ob, g3.gh _ _ eo, by rw [ho.len]; exact List.length_pos_iff.mpr dne, by rw [ho.len]; omega, fun H4 x hx bx4 box4 => ?_⟩
      obtain ⟨d, hd, dx⟩ := ho.memD x hx
      have g4 := g3.take bx4 box4
      refine ⟨Nat.le_of_ble_eq_true rfl, fun p5 n5 => ?_⟩
      generalize hq : upd H4 p5 _ = H5
      obtain ⟨G5, g5, s5, t5, r5, nn5⟩ := g4.laid n5 hq
      clear hq
      cases d3 with
      | @lst q3 ys _ e3 h3 _ =>
      have l6 : (args m).length = 6 := rfl
      have ly : ys.length = k := by rw [h3.len, List.length_take, l6]; omega
      refine ⟨q3, p5, ys, [x], rfl, rfl, g5.gh _ _ (s5 _ _ e3), g5.gh _ _ r5, sz2000 (by rw [ly, List.length_singleton]; omega), fun p6 n6 => ?_⟩
      generalize hq : upd H5 p6 _ = H6
      obtain ⟨G6, g6, s6, t6, r6, nn6⟩ := g5.laid n6 hq
      clear hq
      have dA6 := ((dA2.same r3.gs).same s5).same s6
      refine use_D (.list ((args m).drop (k + 1))) g6.gh ((MkL.slFrom (MkD.var rfl dA6) ((MkD.add (MkD.var rfl (.int _)) (MkD.int 1)).cast rfl)).dat (by rw [List.length_drop, l6]; omega)) fun v7 G7 H7 r7 d7 => ?_
      have g7 := g6.gr r7
      cases d7 with
      | @lst q7 zs _ e7 h7 _ =>
      have e6 := r7.hs _ _ (g6.gh _ _ r6)
      refine ⟨p6, q7, ys ++ [x], zs, rfl, rfl, e6, g7.gh _ _ e7, sz2000 (by rw [List.length_append, ly, List.length_singleton, h7.len, List.length_drop, l6]; omega), fun p8 n8 => ?_⟩
      have f8 := g7.free0 n8
      have G8 := g7.freeG n8
      refine kk G7 _ p8 _ d (g7.same (same_upd n8)) (hbad d hd) upd_same G8 f8 ?_
      rw [List.set_eq_take_append_cons_drop, if_pos (by rw [l6]; exact hk), show List.take k (args m) ++ d :: List.drop (k + 1) (args m) = List.take k (args m) ++ [d] ++ List.drop (k + 1) (args m) by rw [List.append_assoc]; rfl]
      have h3' := ((h3.same s5).same s6).same r7.gs
      have dx' := ((dx.same s5).same s6).same r7.gs
      exact (h3'.app (.cons dx' .nil)).app h7
end
end My

namespace My
open PySem PySem.Spec PyProof.Rows L2
local macro_rules | `(tactic| walk_at "side") => `(tactic| first | (dsimp only; omega) | exact ⟨by omega, by omega⟩ | exact Or.inl ⟨by omega, by omega⟩ | exact Or.inr ⟨by omega, by omega⟩ | decide)
local macro_rules | `(tactic| walk_at "sq") => `(tactic| first | assumption | exact SqL.of (by assumption) | exact SqT.of (by assumption) | (refine L2.Same.seq (by assumption) ?_; walk_at "sq") | (refine L2.Same.seqT (by assumption) ?_; walk_at "sq") | exact Or.inl (by walk_at "sq") | exact Or.inr (by walk_at "sq"))
local macro_rules | `(tactic| walk_at "1") => `(tactic| first
  | refine ⟨_, rfl, iteT ?_⟩
  | refine ⟨_, rfl, iteF ?_⟩
  | refine ⟨_, rfl, ?_⟩
  | refine ⟨_, _, rfl, rfl, (by walk_at "side"), ?_⟩
  | refine ⟨_, _, rfl, rfl, ?_⟩
  | refine ⟨_, _, _, _, true, rfl, .ty _, .base (.int _), kit_ty (a := "int") (by decide +kernel), ?_⟩
  | refine ⟨_, _, _, _, false, rfl, .ty _, .base (.int _), kit_ty (a := "int") (by decide +kernel), ?_⟩
  | refine ⟨_, _, rfl, (by walk_at "sq"), ?_⟩
  | refine ⟨_, _, _, _, rfl, rfl, (by walk_at "sq"), (by first | rfl | assumption), ?_⟩
  | refine Or.inl ⟨_, _, _, _, rfl, rfl, (by walk_at "sq"), (by first | rfl | assumption), ?_⟩
  | refine Or.inr (Or.inl ⟨_, _, _, _, rfl, rfl, (by walk_at "sq"), (by first | rfl | assumption), ?_⟩)
  | refine ⟨_, _, rfl, Or.inl ⟨(by walk_at "sq"), ?_⟩⟩
  | refine ⟨rfl, ?_⟩
  | refine iteT ?_
  | refine iteF ?_
  | refine ⟨_, _, _, _, _, rfl, (by assumption), (by assumption), (by assumption), (by assumption), ?_⟩
  | refine Or.inl ⟨_, rfl, ?_⟩
  | refine Or.inr ⟨_, rfl, ?_⟩
  | refine ⟨_, _, rfl, (by walk_at "side"), ?_⟩
  | refine ⟨_, _, rfl, ?_⟩)
local macro_rules | `(tactic| walk_at "fld") => `(tactic| skip)
local macro_rules | `(tactic| walk_at "s") => `(tactic| repeat walk_at "1")
local macro_rules | `(tactic| walk_at "size") => `(tactic| first | exact Nat.le_of_ble_eq_true rfl | (simp only [List.length_map, List.length_append, List.length_cons, List.length_nil]; omega))
local macro_rules | `(tactic| walk_at "new") => `(tactic| (first | refine ⟨(by walk_at "size"), fun p hp => ?_⟩ | refine fun p hp => ?_); (generalize hq : upd _ p _ = H1); (obtain ⟨s, e⟩ := new_facts hp hq); clear hq)
/-- a stronger reading -/
theorem pss_pre {X : Cx} {ss : List Stmt} {t u : TS} (h : PSs X ss t) (i : ∀ D σ H, u D σ H → t D σ H) : PSs X ss u := ⟨fun pins s σ H D I q => h.run pins s σ H D I (i D σ H q)⟩
/-! ## the law's body, module by module -/
def forBody (s : Stmt) : List Stmt := match s with
  | .For _ _ b _ _ => b
  | _ => []
def nth (l : List Stmt) (i : Nat) : Stmt := l.getD i (.Pass ⟨0, 0, 0, 0⟩)
def rSign : R2 := fun x y H Q => ∃ (c : Nat) (z : Str), x = .str ⟨#[c]⟩ ∧ y = .str z ∧ Q (.bl (decide (c ∈ z.cps.toList))) H
theorem DvAll.six {H : Hp} {xs : List V} {a b c d e f : PyData} (h : DvAll H xs [a, b, c, d, e, f]) : ∃ v0 v1 v2 v3 v4 v5, xs = [v0, v1, v2, v3, v4, v5] ∧ Dv H v0 a ∧ Dv H v1 b ∧ Dv H v2 c ∧ Dv H v3 d ∧ Dv H v4 e ∧ Dv H v5 f := by
  obtain ⟨v0, _, rfl, h0, h⟩ := h.inv
  obtain ⟨v1, _, rfl, h1, h⟩ := h.inv
  obtain ⟨v2, _, rfl, h2, h⟩ := h.inv
  obtain ⟨v3, _, rfl, h3, h⟩ := h.inv
  obtain ⟨v4, _, rfl, h4, h⟩ := h.inv
  obtain ⟨v5, _, rfl, h5, h⟩ := h.inv
  obtain rfl := h.inv0
  exact ⟨v0, v1, v2, v3, v4, v5, rfl, h0, h1, h2, h3, h4, h5⟩
theorem st_if {c : TT} {t u : TS} {σ : L2.St} {H : Hp} {D : Ends} (h : c σ H fun b H1 => if b = true then t D σ H1 else u D σ H1) : tIfS c t u D σ H := h
theorem st_test {t : TE} {σ : L2.St} {H : Hp} {Q : Bool → Hp → Prop} (h : t σ H fun x H' => ∃ k, x = .bl k ∧ Q k H') : tTest t σ H Q := h
theorem st_call {sp : Sp} {ds : List V} {E : XK} {t : TA} {σ : L2.St} {H : Hp} {Q : VK} (h : t σ H fun vs H1 => sp (vs ++ ds) H1 Q E) : tCall sp ds E t σ H Q := h
theorem st_cons {ta : TE} {tr : TA} {σ : L2.St} {H : Hp} {Q : List V → Hp → Prop} (h : ta σ H fun x H1 => tr σ H1 fun xs H2 => Q (x :: xs) H2) : tCons ta tr σ H Q := h
/-- six arguments at a place -/
theorem heard_of {H : Hp} {Q : VK} {E : XK} {p : Addr} {ws : List V} {as : List PyData} {o : Option Str} (ln : as.length = 6) (e : H p = some (.lst ws)) (h : DvAll H ws as) (lo : ∀ d, as[5]? = some d → (itemsD d).all labOk = true) (w : wordL as = o) (k : ∀ H', Same H H' → Q (.str (hw o)) H') : spHeard [.ref p] H Q E := by
  match as, ln with
  | [d0, d1, d2, d3, d4, d5], _ =>
    obtain ⟨v0, v1, v2, v3, v4, v5, rfl, h0, h1, h2, h3, h4, h5⟩ := h.six
    refine ⟨p, v0, v1, v2, v3, v4, v5, d0, d1, d2, d3, d4, d5, rfl, e, h0, h1, h2, h3, h4, h5, lo d5 rfl, fun H' s => ?_⟩
    rw [show wordM d0 d1 d2 d3 d4 d5 = o from w]
    exact k H' s
/-- what a module's dict has for a word -/
theorem ModF.arg {G : Hp} {v : V} {m : DM} (h : ModF G v m) (on : okS m.name = true) : ∃ d kvs, v = .ref d ∧ G d = some (.dK kvs) ∧ ∀ (i : Nat) (y : Str), words[i]? = some y → ∃ z dd, valV kvs (kS y) = some z ∧ (args m)[i]? = some dd ∧ Dv G z dd := by
  obtain ⟨d, kvs, a1, a2, a3, a4, a5, e, ed, h0, h1, h2, h3, h4, h5, g1, g2, g3, g4, g5⟩ := h
  refine ⟨d, kvs, e, ed, fun i y hy => ?_⟩
  match i, hy with
  | 0, hy =>
    obtain rfl := Option.some.inj (show some ("name" : Str) = some y from hy)
    exact ⟨_, _, h0, rfl, .str on⟩
  | 1, hy =>
    obtain rfl := Option.some.inj (show some ("inlets" : Str) = some y from hy)
    exact ⟨_, _, h1, rfl, g1⟩
  | 2, hy =>
    obtain rfl := Option.some.inj (show some ("outlets" : Str) = some y from hy)
    exact ⟨_, _, h2, rfl, g2⟩
  | 3, hy =>
    obtain rfl := Option.some.inj (show some ("stations" : Str) = some y from hy)
    exact ⟨_, _, h3, rfl, g3⟩
  | 4, hy =>
    obtain rfl := Option.some.inj (show some ("links" : Str) = some y from hy)
    exact ⟨_, _, h4, rfl, g4⟩
  | 5, hy =>
    obtain rfl := Option.some.inj (show some ("calls" : Str) = some y from hy)
    exact ⟨_, _, h5, rfl, g5⟩
  | i + 6, hy => exact absurd hy (by show ¬ (none = some y); simp)
/-- tuple(xs), data -/
theorem MkD.tupOf {K : PySem.W.Frag} {σ : L2.St} {G : Hp} {ta : TE} {d : PyData} (h : MkD ta σ G d) (q : isSeqD d = true) : MkD (tCB (rTupOf K) (tCons ta tNil)) σ G (.tuple (itemsD d)) := fun G1 H1 Q s1 s2 k =>
  h G1 H1 _ s1 s2 fun x G2 H2 g2 dx => rd_tupleOf g2.gh dx q fun H' G' t sH sG gh nn dt => k (.ref t) G' H' (g2.trans ⟨sG, sH, gh, fun c o e n => nn c o n e⟩) dt
theorem lo_args {m : DM} : ∀ d, (args m)[5]? = some d → (itemsD d).all labOk = true := fun d hd => by
  obtain rfl := Option.some.inj (show some (PyData.list (m.calls.map callD)) = some d from hd)
  exact calls_ok
theorem six_of {as : List PyData} (h : as.length = 6) : ∃ d0 d1 d2 d3 d4 d5, as = [d0, d1, d2, d3, d4, d5] := by
  match as, h with
  | [d0, d1, d2, d3, d4, d5], _ => exact ⟨d0, d1, d2, d3, d4, d5, rfl⟩
theorem lo_set {m : DM} {k : Nat} {d x : PyData} (b : BadAt m k d) (h : ((args m).set k d)[5]? = some x) : (itemsD x).all labOk = true := by
  by_cases e : k = 5
  · subst e
    obtain rfl := Option.some.inj (show some d = some x from h)
    exact b.2 rfl
  · rw [List.getElem?_set_ne e] at h
    exact lo_args x h
theorem DvAll.set {H : Hp} : ∀ {xs : List V} {ds : List PyData} (n : Nat) {v : V} {d : PyData}, DvAll H xs ds → Dv H v d → DvAll H (xs.set n v) (ds.set n d)
  | _, _, _, _, _, .nil, _ => .nil
  | _, _, 0, _, _, .cons _ t, h => .cons h t
  | _, _, n + 1, _, _, .cons a t, h => .cons a (DvAll.set n t h)
/-- two that are wrong: the first is told -/
theorem both_word {m : DM} (B : DMBase m) {mn mx : Nat} {d : PyData} (h : mn < mx) (h4 : mx < 4) : ∃ wd, words[mn]? = some wd ∧ wordL (((args m).set mx d).set mn .none) = some wd := by
  have F := name_facts B
  match mn, mx, h, h4 with
  | 0, 1, _, _ => exact ⟨_, rfl, word_0 rfl⟩
  | 0, 2, _, _ => exact ⟨_, rfl, word_0 rfl⟩
  | 0, 3, _, _ => exact ⟨_, rfl, word_0 rfl⟩
  | 1, 2, _, _ => exact ⟨_, rfl, word_1 (n := .str m.name) (i := .none) (o := d) (s := strL m.sta) (l := .list (m.links.map linkD)) (c := .list (m.calls.map callD)) F.name rfl⟩
  | 1, 3, _, _ => exact ⟨_, rfl, word_1 (n := .str m.name) (i := .none) (o := strL m.out) (s := d) (l := .list (m.links.map linkD)) (c := .list (m.calls.map callD)) F.name rfl⟩
  | 2, 3, _, _ => exact ⟨_, rfl, word_2 (n := .str m.name) (i := strL m.inl) (o := .none) (s := d) (l := .list (m.links.map linkD)) (c := .list (m.calls.map callD)) F.name F.i1 rfl⟩
  | _, _ + 4, _, h4 => omega
  | 3, 3, h, _ => omega
  | 2, 2, h, _ => omega
  | 1, 1, h, _ => omega
  | 3, 2, h, _ => omega
  | 2, 1, h, _ => omega
  | 3, 1, h, _ => omega
  | _ + 4, 1, h, _ => omega
  | _ + 4, 2, h, _ => omega
  | _ + 4, 3, h, _ => omega
theorem max_int (i j : Nat) : (if ((j : Nat) : Int) > ((i : Nat) : Int) then ((j : Nat) : Int) else ((i : Nat) : Int)) = ((max i j : Nat) : Int) := by split <;> omega
theorem min_int (i j : Nat) : (if ((j : Nat) : Int) < ((i : Nat) : Int) then ((j : Nat) : Int) else ((i : Nat) : Int)) = ((min i j : Nat) : Int) := by split <;> omega
theorem ne_same {x : V} : (!decide (x = x)) = false := by rw [decide_eq_true rfl]; rfl
section
variable {P : Program} {w : World} {K : PySem.W.Frag} {mg : Str → Option Value} {base : Heap}
abbrev s_law : Stmt := topS 49
theorem sc_law : FnScope ["script", "words", "k", "box", "turn", "module", "some", "at", "more", "both", "is_calling", "word", "one", "link"] ["script"] (defScope s_law) := ⟨rfl, rfl, rfl, by decide +kernel, rfl, by decide +kernel, by decide +kernel⟩
abbrev modBody : List Stmt := forBody (nth (forBody (nth (forBody (nth (defBody s_law) 1)) 1)) 0)
def tBody : TS := fun D σ H => ∃ (a W b : Addr) (k turn : V) (v : V) (G : Hp) (m : DM) (ms : List DM) (y6 y7 y8 y9 y10 : Option V), σ = [some (.ref a), some (.ref W), some k, some (.ref b), some turn, some v, y6, y7, y8, y9, y10, none, none, none] ∧
  Same G H ∧ BoxAt H b ∧ G b = none ∧ G W = some (.lst (words.map V.str)) ∧ ModF G v m ∧ DMOk ms m ∧ (∀ m' ∈ ms, DMBase m') ∧
  ∀ (G' H' : Hp) (z6 z7 z8 z9 z10 : Option V), Go b G H G' H' → D.nx [some (.ref a), some (.ref W), some k, some (.ref b), some turn, some v, z6, z7, z8, z9, z10, none, none, none] H'
set_option maxHeartbeats 16000000 in
theorem blk_body {fa : Addr} {cdv : Value} {A : Around} {outer : List Env} {s : Shared} {H0 : Hp} {E : XK} (T : Txt mg) (o_law_heard : Own P w K mg base "_law_heard" 8 ["some"] spHeard) (o_law_take : Own P w K mg base "_law_take" 1 ["box", "many"] spTake)
    (o_law_wrong : Own P w K mg base "_law_wrong" 3 ["box", "some", "at"] spWrong) (hr : Room 8 (A.deeper (envOfC "law" (defScope s_law) s.heap.objs.size fa cdv))) :
    PSs (cxOf CX0 P w K mg base ["script", "words", "k", "box", "turn", "module", "some", "at", "more", "both", "is_calling", "word", "one", "link"] "law" (defScope s_law) fa cdv A outer s H0 E).nox modBody tBody := by
  have hu := hu_of hr
  refine pss_pre (pss_cons (ps_setLc (i := 6) (own := [("word", 11)]) (g := gName 11) (tt := tYes) rfl sc_law.nd rfl rfl (sw_true rfl rfl rfl (by decide +kernel)) (pi_list (pv 1)) (blkOk_by (own := [("word", 11)]) (N := ["script", "words", "k", "box", "turn", "module", "some", "at", "more", "both", "is_calling", "word", "one", "link"]) (sc := defScope s_law) (by decide +kernel)) (fun _ _ _ _ _ => (pg_name (i := 11) sc_law.nd rfl (Or.inl rfl))) (fun _ _ _ _ _ => pts_nil) (fun _ _ _ _ _ => (pe_dget hu (pv 5) (pv 11) (fun _ _ => rfl))))
              (pss_cons (ps_if (PW.pt (pw_or (pt_cmpR op_ne (pe_own o_law_heard (hr.mono (by decide)) (pa_cons (pv 6) pa_nil)) pe_str (nomark _)) (pw_or1 (pt_cmpR op_ne (pe_own o_law_heard (hr.mono (by decide)) (pa_cons (pe_op op_cat (pe_lst (pa_cons (pe_ix ix_list (pv 6) pe_int (fun _ _ => rfl)) pa_nil)) (pe_lc (own := [("one", 12)]) (g := gName 12) (te := tCB (rTupOf K) (tCons (tVar 12) tNil)) (tt := tYes) rfl sc_law.nd (pi_list (pe_slice sl_list (pv 6) (po_some pe_int) po_none)) (blkOk_by (own := [("one", 12)]) (N := ["script", "words", "k", "box", "turn", "module", "some", "at", "more", "both", "is_calling", "word", "one", "link"]) (sc := defScope s_law) (by decide +kernel)) (fun _ _ _ _ _ => (pg_name (i := 12) sc_law.nd rfl (Or.inl rfl))) (fun _ _ _ _ _ => pts_nil) (fun _ _ _ _ _ => (pe_callTy call_tupleN (by rfl) T.tuple (by decide +kernel) (pa_cons (pv 12) pa_nil))))) pa_nil)) pe_str (nomark _)))))
                (pss_one (ps_ret pe_bl))
                pss_nil)
              (pss_cons (ps_par (i := 7) (j := 8) (by rfl) sc_law.nd rfl rfl (by decide) rfl rfl (pa_cons (pe_own o_law_take (hr.mono (by decide)) (pa_cons (pv 3) (pa_cons pe_int pa_nil))) (pa_cons (pe_own o_law_take (hr.mono (by decide)) (pa_cons (pv 3) (pa_cons pe_int pa_nil))) pa_nil)) (by rfl))
              (pss_cons (ps_if (pt_cmpR op_ne (pe_own o_law_heard (hr.mono (by decide)) (pa_cons (pe_own o_law_wrong (hr.mono (by decide)) (pa_cons (pv 3) (pa_cons (pv 6) (pa_cons (pv 7) pa_nil)))) pa_nil)) (pe_ix ix_list (pv 1) (pv 7) (fun _ _ => rfl)) (nomark _))
                (pss_one (ps_ret pe_bl))
                pss_nil)
              (C8.pss_cut (ps_if (PW.pt (pw_and (pt_cmpR op_lt (pv 7) pe_int (nomark _)) (pw_and (pt_cmpR op_lt (pv 8) pe_int (nomark _)) (pw_and1 (pt_cmpR op_ne (pv 7) (pv 8) (nomark _))))))
                (pss_cons (ps_set (i := 9) sc_law.nd rfl (Or.inl rfl) (pe_own o_law_wrong (hr.mono (by decide)) (pa_cons (pv 3) (pa_cons (pv 6) (pa_cons (pe_callB (call_max2 rfl) (by rfl) T.max (by decide +kernel) (pa_cons (pv 7) (pa_cons (pv 8) pa_nil))) pa_nil)))))
                  (pss_cons (ps_asg pe_non (pg_sub (pv 9) (pe_callB (call_min2 rfl) (by rfl) T.min (by decide +kernel) (pa_cons (pv 7) (pa_cons (pv 8) pa_nil))) set_list))
                  (pss_one (ps_if (pt_cmpR op_ne (pe_own o_law_heard (hr.mono (by decide)) (pa_cons (pv 9) pa_nil)) (pe_ix ix_list (pv 1) (pe_callB (call_min2 rfl) (by rfl) T.min (by decide +kernel) (pa_cons (pv 7) (pa_cons (pv 8) pa_nil))) (fun _ _ => rfl)) (nomark _))
                    (pss_one (ps_ret pe_bl))
                    pss_nil))))
                pss_nil)
              (pss_cons (ps_set (i := 10) sc_law.nd rfl (Or.inl rfl) (pe_cmpR (op_neN hr.units) (pe_lc (own := [("link", 13)]) (g := gName 13) (tt := (tTest (tOp rSign (tC (.str ".")) (tOp rCatS (tOp (rIxT K) (tVar 13) (tC (.int 0))) (tOp (rIxT K) (tVar 13) (tC (.int 1))))))) rfl sc_law.nd (pi_list (pe_ix ix_list (pv 6) pe_int (fun _ _ => rfl))) (blkOk_by (own := [("link", 13)]) (N := ["script", "words", "k", "box", "turn", "module", "some", "at", "more", "both", "is_calling", "word", "one", "link"]) (sc := defScope s_law) (by decide +kernel)) (fun _ _ _ _ _ => (pg_name (i := 13) sc_law.nd rfl (Or.inl rfl))) (fun _ _ _ _ _ => (pts_one (pt_cmpR op_in_sign pe_str (pe_op op_add_str (pe_ix ix_tup (pv 13) pe_int (fun _ _ => rfl)) (pe_ix ix_tup (pv 13) pe_int (fun _ _ => rfl))) (by rfl)))) (fun _ _ _ _ _ => (pv 13))) (pe_lst pa_nil) (nomark _)))
              (pss_one (ps_if (pt_cmpR op_ne (pe_own o_law_heard (hr.mono (by decide)) (pa_cons (pe_op op_cat (pe_slice sl_list (pv 6) po_none (po_some pe_int)) (pe_lst (pa_cons pe_non pa_nil))) pa_nil)) (pe_ifExp (pt_val (pv 10)) pe_str pe_str) (nomark _))
                (pss_one (ps_ret pe_bl))
                pss_nil)))))))) ?_
  rintro D σ H ⟨a, W, b, k, turn, v, G, m, ms, y6, y7, y8, y9, y10, rfl, sG, hb, Gb, gW, hF, O, M, kk⟩
  have B := O.base
  have okn : okS m.name = true := okS_name (modNames_name _ B.name)
  obtain ⟨d, kvs, rfl, ed, harg⟩ := hF.arg okn
  -- the arguments
  refine st_set ?_
  refine ⟨_, rfl, W, rfl, ⟨_, SqL.of (sG _ _ gW)⟩, fun S nS => ?_⟩
  refine lc_seq (H0 := G) (seqIt_l (SqL.of gW)) (fun i H2 => Same H H2 ∧ ∃ zs, H2 S = some (.lst zs) ∧ DvAll G zs ((args m).take i)) ⟨same_upd nS, [], upd_same, .nil⟩ (fun i H2 q => sG.trans q.1) ?_ ?_
  · rintro i x H2 hx ⟨s2, zs, eS, hz⟩
    rw [List.getElem?_map] at hx
    obtain ⟨y, hy, rfl⟩ := Option.map_eq_some_iff.mp hx
    obtain ⟨z, dd, hz1, hz2, hz3⟩ := harg i y hy
    have hi : i < 6 := (List.getElem?_eq_some_iff.mp hy).1
    refine ⟨rfl, _, rfl, _, rfl, d, z, rfl, dget_s (s2 _ _ (sG _ _ ed)) hz1, zs, eS, small1000_2 (by rw [hz.len, List.length_take]; omega), s2.upd1 nS, zs ++ [z], upd_same, ?_⟩
    rw [List.take_add_one, hz2]
    exact hz.app (.cons hz3 .nil)
  · rintro H2 ⟨s2, zs, eS, hz⟩
    have hz : DvAll G zs (args m) := hz
    have Sb : S ≠ b := hb.ne nS
    have g2 : Go b G H (upd G S (.lst zs)) H2 := ((Go.refl sG hb Gb).same s2).freeze nS eS (sG.free nS) Sb
    have sG1 : Same G (upd G S (.lst zs)) := same_upd (sG.free nS)
    have dS : Dv (upd G S (.lst zs)) (.ref S) (.list (args m)) := .lst upd_same (hz.same sG1) (by show 6 ≤ 2000; decide)
    have fS : (upd G S (.lst zs)) S = some (.lst zs) := upd_same
    have hz := hz.same sG1
    have gW := sG1 _ _ gW
    generalize upd G S (.lst zs) = G2 at g2 dS fS hz gW
    clear sG1 eS s2 nS Sb sG hb Gb harg ed hF
    -- it is let
    obtain ⟨v0, v1, v2, v3, v4, v5, rfl, h0, h1, h2, h3, h4, h5⟩ := hz.six
    refine ⟨_, rfl, S, v0, v1, v2, v3, v4, v5, _, _, _, _, _, _, rfl, g2.gh _ _ fS, h0.same g2.gh, h1.same g2.gh, h2.same g2.gh, h3.same g2.gh, h4.same g2.gh, h5.same g2.gh, calls_ok, fun H3 s3 => ⟨rfl, _, rfl, ?_⟩⟩
    have g3 := g2.same s3
    clear g2 s3
    rw [show wordM (.str m.name) (strL m.inl) (strL m.out) (strL m.sta) (.list (m.links.map linkD)) (.list (m.calls.map callD)) = none from word_good M O]
    refine iteF ?_
    refine st_test (st_op (st_call (st_cons ?_)))
    refine use_L [.str m.name, .tuple (m.inl.map .str), .tuple (m.out.map .str), .tuple (m.sta.map .str), .tuple (m.links.map linkD), .tuple (m.calls.map callD)] g3.gh
      (MkL.cat (MkD.lst (MkA.cons (MkD.ix (n := 0) (MkD.var rfl dS) (MkD.num 0 rfl) rfl) MkA.nil) (Nat.le_of_ble_eq_true rfl)) ((MkL.lc (fun d => .tuple (itemsD d)) ((MkL.slFrom (n := 1) (MkD.var rfl dS) (MkD.num 1 rfl)).dat (Nat.le_of_ble_eq_true rfl)) (fun _ => rfl) (fun G' x d s hd hx => MkD.tupOf (MkD.var rfl hx) (by
        rcases List.mem_cons.mp hd with rfl | hd
        · rfl
        · rcases List.mem_cons.mp hd with rfl | hd
          · rfl
          · rcases List.mem_cons.mp hd with rfl | hd
            · rfl
            · rcases List.mem_cons.mp hd with rfl | hd
              · rfl
              · rw [List.mem_singleton.mp hd]
                rfl)) (Nat.le_of_ble_eq_true rfl)).dat (Nat.le_of_ble_eq_true rfl)) (Nat.le_of_ble_eq_true rfl)) fun p4 w4 G4 H4 r4 n4 m4 e4 d4 => ?_
    have g4 := g3.gr r4
    obtain ⟨u0, u1, u2, u3, u4, u5, rfl, q0, q1, q2, q3, q4, q5⟩ := d4.six
    refine ⟨p4, u0, u1, u2, u3, u4, u5, _, _, _, _, _, _, rfl, e4, q0.same g4.gh, q1.same g4.gh, q2.same g4.gh, q3.same g4.gh, q4.same g4.gh, q5.same g4.gh, calls_ok, fun H5 s5 => ⟨rfl, _, rfl, ?_⟩⟩
    rw [word_tuples M O]
    have g5 := g4.same s5
    have dS := dS.same r4.gs
    have fS := r4.gs _ _ fS
    have gW := r4.gs _ _ gW
    have h0 := h0.same r4.gs
    have h1 := h1.same r4.gs
    have h2 := h2.same r4.gs
    have h3 := h3.same r4.gs
    have h4 := h4.same r4.gs
    have h5 := h5.same r4.gs
    clear g3 r4 n4 m4 e4 d4 q0 q1 q2 q3 q4 q5 s5 g4 hz
    refine iteF ?_
    -- which is made wrong
    refine ⟨_, rfl, b, 6, rfl, by decide, by decide, g5.box, fun H6 k1 hk1 bx6 box6 => ?_⟩
    have g6 := g5.take bx6 box6
    refine ⟨_, rfl, b, 6, rfl, by decide, by decide, g6.box, fun H7 k2 hk2 bx7 box7 => ⟨_, _, rfl, ?_⟩⟩
    have g7 := g6.take bx7 box7
    clear g5 g6 bx6 box6 bx7 box7
    refine ⟨_, rfl, _, rfl, _, rfl, b, S, k1, G4, m, ms, rfl, g7.gh, g7.box, g7.gb, dS, O, M, hk1, fun G8 H8 p8 w8 d8 g8 bad e8 n8 f8 dv8 => ?_⟩
    have sG8 := g8.gs
    have g8 := g7.trans g8
    clear g7
    have dS := dS.same sG8
    have fS := sG8 _ _ fS
    have gW := sG8 _ _ gW
    have h0 := h0.same sG8
    have h1 := h1.same sG8
    have h2 := h2.same sG8
    have h3 := h3.same sG8
    have h4 := h4.same sG8
    have h5 := h5.same sG8
    clear sG8
    obtain ⟨x0, x1, x2, x3, x4, x5, eas⟩ := six_of (as := (args m).set k1 d8) (by rw [List.length_set]; rfl)
    obtain ⟨⟨wd, hwd, hwl⟩, _⟩ := id bad
    have lo5 := lo_set bad (x := x5) (by rw [eas]; rfl)
    rw [eas] at dv8 hwl
    obtain ⟨u0, u1, u2, u3, u4, u5, rfl, q0, q1, q2, q3, q4, q5⟩ := dv8.six
    refine ⟨p8, u0, u1, u2, u3, u4, u5, _, _, _, _, _, _, rfl, e8, q0.same g8.gh, q1.same g8.gh, q2.same g8.gh, q3.same g8.gh, q4.same g8.gh, q5.same g8.gh, lo5, fun H9 s9 => ?_⟩
    have g9 := g8.same s9
    rw [show wordM x0 x1 x2 x3 x4 x5 = some wd from hwl]
    refine ⟨_, rfl, _, rfl, W, _, k1, .str wd, rfl, rfl, SqL.of (g9.gh _ _ gW), atI_nat (by rw [List.getElem?_map, hwd]; rfl), rfl, _, rfl, ?_⟩
    rw [show (!decide (V.str (hw (some wd)) = V.str wd)) = false from ne_same]
    refine iteF ?_
    clear g8 s9 q0 q1 q2 q3 q4 q5 dv8 e8 n8 f8 bad hwl hwd lo5 eas
    -- two that are wrong
    refine ⟨fun σ' H' => ∃ (G' : Hp) (z9 : Option V), σ' = [some (.ref a), some (.ref W), some k, some (.ref b), some turn, some (.ref d), some (.ref S), some (.int (k1 : Nat)), some (.int (k2 : Nat)), z9, y10, none, none, none] ∧ Go b G H G' H' ∧ Same G8 G', ?_, ?_⟩
    · refine ⟨_, rfl, _, _, rfl, rfl, _, rfl, ?_⟩
      refine ite2 (fun c1 => ?_) (fun c1 => iteF ⟨G8, _, rfl, g9, Same.refl _⟩)
      refine ⟨_, rfl, _, _, rfl, rfl, _, rfl, ?_⟩
      refine ite2 (fun c2 => ?_) (fun c2 => iteF ⟨G8, _, rfl, g9, Same.refl _⟩)
      refine ⟨_, rfl, _, rfl, rfl, _, rfl, ?_⟩
      refine ite2 (fun c3 => ?_) (fun c3 => ⟨G8, _, rfl, g9, Same.refl _⟩)
      have l1 : k1 < 4 := by
        have := of_decide_eq_true c1
        omega
      have l2 : k2 < 4 := by
        have := of_decide_eq_true c2
        omega
      have l3 : k1 ≠ k2 := fun q => by
        rw [q, ne_same] at c3
        cases c3
      refine ⟨_, rfl, _, rfl, _, rfl, _, rfl, _, _, rfl, b, S, max k1 k2, G8, m, ms, (by show [V.ref b, V.ref S, V.int _] = _; rw [max_int]), g9.gh, g9.box, g9.gb, dS, O, M, by omega, fun G10 H10 p10 w10 d10 g10 bad e10 n10 f10 dv10 => ?_⟩
      have sG10 := g10.gs
      have pb : p10 ≠ b := g9.ne f10
      have p0 : H p10 = none := g9.free0 f10
      have g10 := g9.trans g10
      obtain ⟨wd, hwd, hwl⟩ := both_word B (d := d10) (show min k1 k2 < max k1 k2 by omega) (by omega)
      refine ⟨_, rfl, _, rfl, _, rfl, _, _, rfl, p10, w10, _, min k1 k2, rfl, rfl, e10, (by rw [min_int, dv10.len, List.length_set]; unfold ixN; rw [if_pos (by omega), if_pos (by show ((min k1 k2 : Nat) : Int) < 6; omega)]; rfl), ?_⟩
      have g11 := g10.change (o := .lst (w10.set (min k1 k2) .non)) p0 n10 pb
      have e11 : (upd H10 p10 (.lst (w10.set (min k1 k2) .non))) p10 = some (.lst (w10.set (min k1 k2) .non)) := upd_same
      have dv11 := dv10.set (min k1 k2) (v := .non) (d := .none) .non
      generalize upd H10 p10 (.lst (w10.set (min k1 k2) .non)) = H11 at g11 e11 ⊢
      generalize w10.set (min k1 k2) .non = w11 at e11 dv11
      clear g10 e10 dv10 bad
      have lo5 : ∀ x, (((args m).set (max k1 k2) d10).set (min k1 k2) .none)[5]? = some x → (itemsD x).all labOk = true := fun x hx => by
        rw [List.getElem?_set_ne (by omega), List.getElem?_set_ne (by omega)] at hx
        exact lo_args x hx
      obtain ⟨x0, x1, x2, x3, x4, x5, eas⟩ := six_of (as := ((args m).set (max k1 k2) d10).set (min k1 k2) .none) (by rw [List.length_set, List.length_set]; rfl)
      rw [eas] at dv11 hwl lo5
      obtain ⟨u0, u1, u2, u3, u4, u5, rfl, q0, q1, q2, q3, q4, q5⟩ := dv11.six
      refine ⟨_, rfl, p10, u0, u1, u2, u3, u4, u5, _, _, _, _, _, _, rfl, e11, q0.same g11.gh, q1.same g11.gh, q2.same g11.gh, q3.same g11.gh, q4.same g11.gh, q5.same g11.gh, lo5 x5 rfl, fun H12 s12 => ?_⟩
      have g12 := g11.same s12
      rw [show wordM x0 x1 x2 x3 x4 x5 = some wd from hwl]
      refine ⟨_, rfl, _, rfl, _, rfl, _, _, rfl, W, _, _, .str wd, rfl, rfl, SqL.of (g12.gh _ _ (sG10 _ _ gW)), (by rw [min_int]; exact atI_nat (by rw [List.getElem?_map, hwd]; rfl)), rfl, _, rfl, ?_⟩
      rw [show (!decide (V.str (hw (some wd)) = V.str wd)) = false from ne_same]
      exact iteF ⟨G10, _, rfl, g12, sG10⟩
    · rintro σ' H10 ⟨G10, z9, rfl, g10, sG⟩
      have dS := dS.same sG
      have fS := sG _ _ fS
      have h4 := h4.same sG
      clear g9 sG gW h0 h1 h2 h3 h5
      -- which links lead to calls
      refine st_set ?_
      obtain ⟨A4, ys, rfl, e4, h4⟩ : ∃ A4 ys, v4 = .ref A4 ∧ G10 A4 = some (.lst ys) ∧ DvAll G10 ys (m.links.map linkD) := by
        cases h4 with
        | lst e h _ => exact ⟨_, _, rfl, e, h⟩
      refine ⟨_, rfl, S, _, 4, _, rfl, rfl, SqL.of (g10.gh _ _ fS), (show atI _ ((4 : Nat) : Int) = some _ from atI_nat rfl), A4, rfl, ⟨_, SqL.of (g10.gh _ _ e4)⟩, fun L nL => ?_⟩
      have ll := O.lks
      refine lc_seq (H0 := G10) (seqIt_l (SqL.of e4)) (fun i H2 => Same H10 H2 ∧ ∃ acc, H2 L = some (.lst acc) ∧ acc.length ≤ i ∧ (!acc.isEmpty) = (m.links.take i).any fun l => decide (46 ∈ TL.tl (l.1 ++ l.2.1))) ⟨same_upd nL, [], upd_same, Nat.zero_le _, rfl⟩ (fun i H2 q => g10.gh.trans q.1) ?_ ?_
      · rintro i x H2 hx ⟨s2, acc, eL, la, ha⟩
        obtain ⟨dd, hdd, hxd⟩ := h4.get hx
        rw [List.getElem?_map] at hdd
        obtain ⟨l, hl, rfl⟩ := Option.map_eq_some_iff.mp hdd
        have hi : i < m.links.length := (List.getElem?_eq_some_iff.mp hl).1
        obtain ⟨t, rfl, et, ok1, ok2⟩ : ∃ t, x = .ref t ∧ G10 t = some (.tup [.str l.1, .str l.2.1, .int (l.2.2.1 : Nat), .int (l.2.2.2 : Nat)]) ∧ okS l.1 = true ∧ okS l.2.1 = true := by
          cases hxd with
          | tup e h _ =>
            obtain ⟨_, _, rfl, z0, h⟩ := h.inv
            obtain ⟨_, _, rfl, z1, h⟩ := h.inv
            obtain ⟨_, _, rfl, z2, h⟩ := h.inv
            obtain ⟨_, _, rfl, z3, h⟩ := h.inv
            obtain rfl := h.inv0
            cases z0 with
            | str o0 =>
              cases z1 with
              | str o1 =>
                cases z2
                cases z3
                exact ⟨_, rfl, e, o0, o1⟩
        have et2 := s2 _ _ (g10.gh _ _ et)
        have n1 : l.1.length ≤ 1000 := of_decide_eq_true (Bool.and_eq_true_iff.mp ok1).2
        have n2 : l.2.1.length ≤ 1000 := of_decide_eq_true (Bool.and_eq_true_iff.mp ok2).2
        have step : ((m.links.take (i + 1)).any fun l => decide (46 ∈ TL.tl (l.1 ++ l.2.1))) = (((m.links.take i).any fun l => decide (46 ∈ TL.tl (l.1 ++ l.2.1))) || decide (46 ∈ TL.tl (l.1 ++ l.2.1))) := by
          rw [List.take_add_one, hl, List.any_append]
          show (_ || ([l].any _)) = _
          rw [List.any_cons, List.any_nil, Bool.or_false]
        refine ⟨rfl, _, rfl, t, _, 0, _, rfl, rfl, SqT.of et2, (show atI _ ((0 : Nat) : Int) = some _ from atI_nat rfl), _, rfl, t, _, 1, _, rfl, rfl, SqT.of et2, (show atI _ ((1 : Nat) : Int) = some _ from atI_nat rfl), l.1, l.2.1, rfl, rfl, sz2000 (by omega), 46, l.1 ++ l.2.1, rfl, rfl, _, rfl, ?_⟩
        refine ite2 (fun c => ?_) (fun c => ?_)
        · refine ⟨_, rfl, acc, eL, small1000_2 (by omega), s2.upd1 nL, acc ++ [.ref t], upd_same, by rw [List.length_append]; exact Nat.succ_le_succ la, ?_⟩
          rw [step, show decide (46 ∈ TL.tl (l.1 ++ l.2.1)) = true from c, Bool.or_true]
          cases acc <;> rfl
        · refine ⟨s2, acc, eL, by omega, ?_⟩
          rw [step, show decide (46 ∈ TL.tl (l.1 ++ l.2.1)) = false from Bool.eq_false_iff.mpr c, Bool.or_false]
          exact ha
      · rintro H11 ⟨s11, acc, eL, la, ha⟩
        rw [h4.len, List.length_map, List.take_length] at ha
        have g11 := g10.same s11
        refine ⟨Nat.zero_le _, fun p np => ?_⟩
        generalize hq : upd H11 p _ = H12
        obtain ⟨s12, e12⟩ := new_facts np hq
        clear hq
        refine ⟨L, p, acc, rfl, rfl, SqL.of (s12 _ _ eL), SqL.of e12, ?_⟩
        have g12 := g11.same s12
        rw [show (!acc.isEmpty) = callsL m from ha]
        clear g11 s12 e12 eL ha la s11 g10 h4 e4 np
        -- without calls
        refine st_if (st_test (st_op (st_call (st_cons ?_))))
        refine use_L [.str m.name, strL m.inl, strL m.out, strL m.sta, .list (m.links.map linkD), .none] g12.gh
          (MkL.cat ((MkL.slTo (n := 5) (MkD.var rfl dS) (MkD.num 5 rfl)).dat (Nat.le_of_ble_eq_true rfl)) (MkD.lst (MkA.cons MkD.non MkA.nil) (Nat.le_of_ble_eq_true rfl)) (Nat.le_of_ble_eq_true rfl)) fun p13 w13 G13 H13 r13 n13 m13 e13 d13 => ?_
        have g13 := g12.gr r13
        obtain ⟨u0, u1, u2, u3, u4, u5, rfl, q0, q1, q2, q3, q4, q5⟩ := d13.six
        refine ⟨p13, u0, u1, u2, u3, u4, u5, _, _, _, _, _, _, rfl, e13, q0.same g13.gh, q1.same g13.gh, q2.same g13.gh, q3.same g13.gh, q4.same g13.gh, q5.same g13.gh, rfl, fun H14 s14 => ?_⟩
        have g14 := g13.same s14
        rw [word_bare M O]
        refine ⟨_, rfl, _, rfl, ?_⟩
        cases hcl : callsL m with
        | true =>
          refine iteT ?_
          refine ⟨rfl, _, rfl, ?_⟩
          exact iteF (kk _ _ _ _ _ _ _ g14)
        | false =>
          refine iteF ?_
          refine ⟨rfl, _, rfl, ?_⟩
          exact iteF (kk _ _ _ _ _ _ _ g14)
end
end My

namespace My
open PySem PySem.Spec PyProof.Rows L2
local macro_rules | `(tactic| walk_at "side") => `(tactic| first | (dsimp only; omega) | exact ⟨by omega, by omega⟩ | exact Or.inl ⟨by omega, by omega⟩ | exact Or.inr ⟨by omega, by omega⟩ | decide)
local macro_rules | `(tactic| walk_at "sq") => `(tactic| first | assumption | exact SqL.of (by assumption) | exact SqT.of (by assumption) | (refine L2.Same.seq (by assumption) ?_; walk_at "sq") | (refine L2.Same.seqT (by assumption) ?_; walk_at "sq") | exact Or.inl (by walk_at "sq") | exact Or.inr (by walk_at "sq"))
local macro_rules | `(tactic| walk_at "1") => `(tactic| first
  | refine ⟨_, rfl, iteT ?_⟩
  | refine ⟨_, rfl, iteF ?_⟩
  | refine ⟨_, rfl, ?_⟩
  | refine ⟨_, _, rfl, rfl, (by walk_at "side"), ?_⟩
  | refine ⟨_, _, rfl, rfl, ?_⟩
  | refine ⟨_, _, _, _, true, rfl, .ty _, .base (.int _), kit_ty (a := "int") (by decide +kernel), ?_⟩
  | refine ⟨_, _, _, _, false, rfl, .ty _, .base (.int _), kit_ty (a := "int") (by decide +kernel), ?_⟩
  | refine ⟨_, _, rfl, (by walk_at "sq"), ?_⟩
  | refine ⟨_, _, _, _, rfl, rfl, (by walk_at "sq"), (by first | rfl | assumption), ?_⟩
  | refine Or.inl ⟨_, _, _, _, rfl, rfl, (by walk_at "sq"), (by first | rfl | assumption), ?_⟩
  | refine Or.inr (Or.inl ⟨_, _, _, _, rfl, rfl, (by walk_at "sq"), (by first | rfl | assumption), ?_⟩)
  | refine ⟨_, _, rfl, Or.inl ⟨(by walk_at "sq"), ?_⟩⟩
  | refine ⟨rfl, ?_⟩
  | refine iteT ?_
  | refine iteF ?_
  | refine ⟨_, _, _, _, _, rfl, (by assumption), (by assumption), (by assumption), (by assumption), ?_⟩
  | refine Or.inl ⟨_, rfl, ?_⟩
  | refine Or.inr ⟨_, rfl, ?_⟩
  | refine ⟨_, _, rfl, (by walk_at "side"), ?_⟩
  | refine ⟨_, _, rfl, ?_⟩)
local macro_rules | `(tactic| walk_at "fld") => `(tactic| skip)
local macro_rules | `(tactic| walk_at "s") => `(tactic| repeat walk_at "1")
local macro_rules | `(tactic| walk_at "size") => `(tactic| first | exact Nat.le_of_ble_eq_true rfl | (simp only [List.length_map, List.length_append, List.length_cons, List.length_nil]; omega))
local macro_rules | `(tactic| walk_at "new") => `(tactic| (first | refine ⟨(by walk_at "size"), fun p hp => ?_⟩ | refine fun p hp => ?_); (generalize hq : upd _ p _ = H1); (obtain ⟨s, e⟩ := new_facts hp hq); clear hq)
section
variable {P : Program} {w : World} {K : PySem.W.Frag} {mg : Str → Option Value} {base : Heap}
def spLaw (K : PySem.W.Frag) : Sp := fun vs H Q _ => ∃ (a : Addr) (ns : List Int), vs = [.ref a] ∧ SqL K H a (ns.map V.int) ∧ ns.length ≤ 63 ∧ ∀ H', Q (.bl true) H'
set_option maxHeartbeats 16000000 in
theorem ok_law {fa : Addr} {fd : FuncData} (F : Fun K "law" "law" s_law fa fd) (T : Txt mg) (o_law_box : Own P w K mg base "_law_box" 1 ["script", "k", "own"] (spBox K)) (o_law_house : Own P w K mg base "_law_house" 5 ["box", "many"] spHouse)
    (o_law_heard : Own P w K mg base "_law_heard" 8 ["some"] spHeard) (o_law_take : Own P w K mg base "_law_take" 1 ["box", "many"] spTake) (o_law_wrong : Own P w K mg base "_law_wrong" 3 ["box", "some", "at"] spWrong) : FnOk P w K mg base CX0 9 fa fd ["script"] (spLaw K) := by
  refine F.ok sc_law (fun vs H Q E h => ?_) (fun cdv A outer s H vs Q E hr h => ?_)
  · obtain ⟨_, _, rfl, _⟩ := h
    rfl
  · obtain ⟨a, ns, rfl, hS, hlen, k⟩ := h
    refine ⟨_, (pss_cons (ps_set (i := 1) sc_law.nd rfl (Or.inl rfl) (pe_lst (pa_cons pe_str (pa_cons pe_str (pa_cons pe_str (pa_cons pe_str (pa_cons pe_str (pa_cons pe_str pa_nil))))))))
  (pss_cons (ps_for PassesOwn.never rfl (pi_range1 (by rfl) T.range (pa_cons (pe_callB (call_max2 rfl) (by rfl) T.max (by decide +kernel) (pa_cons pe_int (pa_cons (pe_callB (call_min2 rfl) (by rfl) T.min (by decide +kernel) (pa_cons pe_int (pa_cons (pe_callB call_len_seq (by rfl) T.len PySem.boot_len (pa_cons (pv 0) pa_nil)) pa_nil))) pa_nil))) pa_nil)) (pg_name (i := 2) sc_law.nd rfl (Or.inl rfl))
    (pss_cons (ps_set (i := 3) sc_law.nd rfl (Or.inl rfl) (pe_own o_law_box (hr.mono (by decide)) (pa_cons (pv 0) (pa_cons (pv 2) (pa_cons pe_int pa_nil)))))
      (pss_one (ps_for PassesOwn.never rfl (pi_range1 (by rfl) T.range (pa_cons pe_int pa_nil)) (pg_name (i := 4) sc_law.nd rfl (Or.inl rfl))
        (pss_one (ps_for PassesOwn.never rfl (pi_list (pe_own o_law_house (hr.mono (by decide)) (pa_cons (pv 3) (pa_cons pe_int pa_nil)))) (pg_name (i := 5) sc_law.nd rfl (Or.inr rfl))
            (blk_body T o_law_heard o_law_take o_law_wrong hr)))))))
  (pss_one (ps_ret pe_bl)))), ?_⟩
    refine ⟨Nat.le_of_ble_eq_true rfl, fun W nW => ?_⟩
    generalize hq : upd H W _ = H1
    obtain ⟨s1, eW⟩ := new_facts nW hq
    clear hq
    have eW : H1 W = some (.lst (words.map V.str)) := eW
    have hS1 := s1.seq hS
    refine ⟨_, rfl, a, _, rfl, Or.inl hS1, _, _, rfl, _, _, rfl, _, rfl, ?_⟩
    have hN : 1 ≤ (if (if ((ns.map V.int).length : Int) < 2 then ((ns.map V.int).length : Int) else 2) > 1 then (if ((ns.map V.int).length : Int) < 2 then ((ns.map V.int).length : Int) else 2) else 1) ∧ (if (if ((ns.map V.int).length : Int) < 2 then ((ns.map V.int).length : Int) else 2) > 1 then (if ((ns.map V.int).length : Int) < 2 then ((ns.map V.int).length : Int) else 2) else 1) ≤ 2 := by
      split <;> split at * <;> omega
    generalize (if (if ((ns.map V.int).length : Int) < 2 then ((ns.map V.int).length : Int) else 2) > 1 then (if ((ns.map V.int).length : Int) < 2 then ((ns.map V.int).length : Int) else 2) else 1) = N at hN ⊢
    refine ⟨by omega, by omega, for_range (lo := 0) (n := N.toNat) (fun i σ' H' => ∃ y2 y3 y4 y5 y6 y7 y8 y9 y10, σ' = [some (.ref a), some (.ref W), y2, y3, y4, y5, y6, y7, y8, y9, y10, none, none, none] ∧ Same H1 H') ⟨none, none, none, none, none, none, none, none, none, rfl, Same.refl _⟩ ?_ ?_⟩
    · rintro i σ' H2 hi ⟨y2, y3, y4, y5, y6, y7, y8, y9, y10, rfl, s2⟩
      rw [Int.zero_add]
      refine ⟨_, rfl, _, rfl, a, ns, i, 10, rfl, s2.seq hS1, hlen, fun H3 b s3 nb hb => ?_⟩
      have Wb : W ≠ b := ne_of_none (s2 _ _ eW) nb
      have nb1 : H1 b = none := s2.free nb
      have sO : Same H1 (off b H3) := off_to (s2.trans s3) nb1
      refine ⟨_, rfl, by decide, by decide, for_range (lo := 0) (n := 1) (fun j σ' H' => ∃ (G' : Hp) (y4 y5 y6 y7 y8 y9 y10 : Option V), σ' = [some (.ref a), some (.ref W), some (.int (i : Nat)), some (.ref b), y4, y5, y6, y7, y8, y9, y10, none, none, none] ∧ Go b (off b H3) H3 G' H') ⟨_, y4, y5, y6, y7, y8, y9, y10, rfl, Go.refl off_same hb off_at⟩ ?_ ?_⟩
      · rintro j σ' H4 hj ⟨G', y4, y5, y6, y7, y8, y9, y10, rfl, g4⟩
        refine ⟨_, rfl, b, 2, G', rfl, by decide, g4.gh, g4.box, g4.gb, fun G1 H5 p ws ms g5 ep hM hO hl => ?_⟩
        refine ⟨p, rfl, ⟨_, SqL.of (g5.gh _ _ ep)⟩, for_seq (seqIt_l (SqL.of ep)) (fun l σ' H' => ∃ (G'' : Hp) (y5 y6 y7 y8 y9 y10 : Option V), σ' = [some (.ref a), some (.ref W), some (.int (i : Nat)), some (.ref b), some (.int (0 + (j : Int))), y5, y6, y7, y8, y9, y10, none, none, none] ∧ Go b (off b H3) H3 G'' H' ∧ Same G1 G'') ⟨G1, y5, y6, y7, y8, y9, y10, rfl, g4.trans g5, Same.refl _⟩ (fun l σ' H' q => by obtain ⟨_, _, _, _, _, _, _, _, q1, q2⟩ := q; exact q2.trans q1.gh) ?_ ?_⟩
        · rintro l x σ' H6 hx ⟨G6, y5, y6, y7, y8, y9, y10, rfl, g6, sG⟩
          obtain ⟨m, hm, hF⟩ := hM.get hx
          obtain ⟨ms', M, O⟩ := hO.ok m (List.mem_of_getElem? hm)
          refine ⟨a, W, b, _, _, x, G6, m, ms', y6, y7, y8, y9, y10, rfl, g6.gh, g6.box, g6.gb, g6.gs _ _ (sO _ _ eW), hF.same sG, O, M, fun G7 H7 z6 z7 z8 z9 z10 g7 => ?_⟩
          exact ⟨G7, _, z6, z7, z8, z9, z10, rfl, g6.trans g7, sG.trans g7.gs⟩
        · rintro σ' H6 ⟨G6, y5, y6, y7, y8, y9, y10, rfl, g6, sG⟩
          exact ⟨G6, _, y5, y6, y7, y8, y9, y10, rfl, g6⟩
      · rintro σ' H4 ⟨G', y4, y5, y6, y7, y8, y9, y10, rfl, g4⟩
        exact ⟨_, _, y4, y5, y6, y7, y8, y9, y10, rfl, (sO.trans g4.gs).trans g4.gh⟩
    · rintro σ' H2 ⟨y2, y3, y4, y5, y6, y7, y8, y9, y10, rfl, s2⟩
      exact k H2
end
end My

set_option linter.all false
namespace My
open PySem PySem.Spec PyProof.Rows L2
section
variable {K : PySem.W.Frag} {h : Heap} {mg : Str → Option Value}
theorem df_mk {x : Str} {st : Stmt} {ps : List Str} {f : Addr} {oc : Value} {od an : Option Addr} {osl : Array (Option Value)} {kV doc pm cdv ct : Value} (X : K.In h) (G : h.Ns mainGlobals mg)
    (a : PySem.W.nsIn K mainGlobals x = some (some (.ref f)))
    (l : K.lookup f = some ⟨oc, od, .func (PySem.W.fnOf x x (defArgs st) (defBody st) (defScope st) .none kV doc pm an cdv ct), osl⟩) (c : PySem.W.codeIn K cdv x = true) (k : PySem.W.keepIn K (.ref f) = true)
    (hb : ∀ (kV doc pm : Value) (an : Option Addr) (cdv ct : Value) (us : List Value), us.length = ps.length → bindArgs (PySem.W.fnOf x x (defArgs st) (defBody st) (defScope st) .none kV doc pm an cdv ct) ⟨us, []⟩ = pure (ps.zip us)) : Df K mg x st ps :=
  ⟨f, _, fun_mk l c k, PySem.W.mg_of X G a, (fun_mk l c k).binds hb⟩
theorem dfa_mk {x y : Str} {st : Stmt} {ps : List Str} {f : Addr} {oc : Value} {od an : Option Addr} {osl : Array (Option Value)} {kV doc pm cdv ct : Value} (X : K.In h) (G : h.Ns mainGlobals mg)
    (a : PySem.W.nsIn K mainGlobals x = some (some (.ref f)))
    (l : K.lookup f = some ⟨oc, od, .func (PySem.W.fnOf y y (defArgs st) (defBody st) (defScope st) .none kV doc pm an cdv ct), osl⟩) (c : PySem.W.codeIn K cdv y = true) (k : PySem.W.keepIn K (.ref f) = true)
    (hb : ∀ (kV doc pm : Value) (an : Option Addr) (cdv ct : Value) (us : List Value), us.length = ps.length → bindArgs (PySem.W.fnOf y y (defArgs st) (defBody st) (defScope st) .none kV doc pm an cdv ct) ⟨us, []⟩ = pure (ps.zip us)) : DfA K mg x y st ps :=
  ⟨f, _, fun_mk l c k, PySem.W.mg_of X G a, (fun_mk l c k).binds hb⟩
/-- the class of modules with its __init__, which has one default -/
structure DfI (K : PySem.W.Frag) (mg : Str → Option Value) (C : Addr) : Prop where
  ex : ∃ f fd e, FunD K "__init__" "Module.__init__" (defArgs s_Module_init) (defBody s_Module_init) (defScope s_Module_init) [.ref e] [] f fd ∧ Mk K C f ∧ mg "Module" = some (.ref C) ∧ Binds K fd ["self", "name", "inlets", "outlets", "stations", "links", "calls"] []
theorem dfi_mk {C Td e : Addr} {f : Addr} {oc : Value} {od an : Option Addr} {osl : Array (Option Value)} {kV doc pm cdv ct : Value} {o : Obj} {n : Nat} (X : K.In h) (G : h.Ns mainGlobals mg)
    (aC : PySem.W.nsIn K mainGlobals "Module" = some (some (.ref C))) (a : PySem.W.findIn K (.ref C) "__init__" = some (some (.ref f))) (i : PySem.W.isFn K (.ref f) = true) (mk : PySem.W.makesIn K C = true) (kc : PySem.W.keepIn K (.ref C) = true)
    (l : K.lookup f = some ⟨oc, od, .func (PySem.W.fnOf "__init__" "Module.__init__" (defArgs s_Module_init) (defBody s_Module_init) (defScope s_Module_init) (.ref Td) kV doc pm an cdv ct), osl⟩) (lT : K.lookup Td = some o) (oT : o.data = .seq [Value.ref e].toArray n)
    (c : PySem.W.codeIn K cdv "Module.__init__" = true) (k : PySem.W.keepIn K (.ref f) = true) : DfI K mg C := by
  have F : FunD K "__init__" "Module.__init__" (defArgs s_Module_init) (defBody s_Module_init) (defScope s_Module_init) [.ref e] [] f (PySem.W.fnOf "__init__" "Module.__init__" (defArgs s_Module_init) (defBody s_Module_init) (defScope s_Module_init) (.ref Td) kV doc pm an cdv ct) :=
    ⟨⟨oc, od, .ref Td, kV, doc, pm, an, cdv, ct, osl, rfl, l, c, Or.inr ⟨by simp, Td, o, [Value.ref e], n, rfl, lT, oT, .cons rfl .nil⟩, Or.inl rfl⟩, k⟩
  obtain ⟨ds, v, b⟩ := F.binds1 (ps := ["self", "name", "inlets", "outlets", "stations", "links", "calls"]) 7 1 (by simp) (by simp) (fun _ _ _ _ _ _ _ us its hl h1 => match us, hl, its, h1 with | [_, _, _, _, _, _, _], _, [_], _ => ⟨_, rfl, rfl⟩)
  cases v
  exact ⟨f, _, e, F, ⟨mk, a, i, kc⟩, PySem.W.mg_of X G aC, b⟩
/-- the class of the error with its __init__ -/
structure DfE (K : PySem.W.Frag) (mg : Str → Option Value) (D : Addr) : Prop where
  ex : ∃ fI fd, OexC K D ∧ PySem.W.findIn K (.ref D) "__init__" = some (some (.ref fI)) ∧ PySem.W.typeIn K (.ref fI) = some (.type "function") ∧ Fun K "__init__" "InvalidModule.__init__" s_IM_init fI fd ∧ Binds K fd ["self", "word"] [] ∧ mg "InvalidModule" = some (.ref D)
theorem dfe_mk {D W f : Addr} {nm q : Str} {N : Addr} {bs : List Value} {sn : List Str} {sub : List Value} {ab : Bool} {col : Option Bool} {dd : Option Addr} {k0 k1 k2 k3 k5 : Option Value} {oc : Value} {od an : Option Addr} {osl : Array (Option Value)} {kV doc pm cdv ct : Value} (X : K.In h) (G : h.Ns mainGlobals mg)
    (aD : PySem.W.nsIn K mainGlobals "InvalidModule" = some (some (.ref D)))
    (xL : K.lookup D = some (excClassObj nm q D N bs [.ref W, .type "ValueError", .type "Exception", .type "BaseException", .type "object"] true sn sub ab col dd k0 k1 k2 k3 k5 "ValueError.__new__"))
    (sa : PySem.W.findIn K (.ref D) "__setattr__" = some (some (.builtin "object.__setattr__"))) (eC : PySem.W.subIn K (.ref D) (.type "BaseException") = some true) (tC : PySem.W.typeIn K (.ref D) = some (.type "type")) (kC : PySem.W.keepIn K (.ref D) = true)
    (a1 : PySem.W.findIn K (.ref D) "__init__" = some (some (.ref f))) (t1 : PySem.W.typeIn K (.ref f) = some (.type "function"))
    (l : K.lookup f = some ⟨oc, od, .func (PySem.W.fnOf "__init__" "InvalidModule.__init__" (defArgs s_IM_init) (defBody s_IM_init) (defScope s_IM_init) .none kV doc pm an cdv ct), osl⟩) (c : PySem.W.codeIn K cdv "InvalidModule.__init__" = true) (k : PySem.W.keepIn K (.ref f) = true) : DfE K mg D :=
  ⟨f, _, ⟨⟨nm, q, N, bs, _, sn, sub, ab, col, dd, k0, k1, k2, k3, k5, xL, rfl⟩, sa, eC, tC, kC⟩, a1, t1, fun_mk l c k, (fun_mk (st := s_IM_init) l c k).binds (fun _ _ _ _ _ _ us hl => match us, hl with | [_, _], _ => rfl), PySem.W.mg_of X G aD⟩
theorem kit_no {D M : Addr} (sD : PySem.W.subIn K (.ref D) (.ref D) = some true) (cM : PySem.W.isClsIn K M = true) (tM : PySem.W.typeIn K (.ref M) = some (.type "type")) (s : PySem.W.subIn K (.ref D) (.ref M) = some false) : PySem.W.kitOne K (.ref D) (.ref M) = some false := by
  have cM' : (PySem.W.clsIn K M).isSome = true := cM
  unfold PySem.W.kitOne
  rw [if_neg]
  · show (if ((PySem.W.clsIn K M).isSome && PySem.W.typeIn K (.ref M) == some (.type "type")) = true then PySem.W.subIn K (.ref D) (.ref M) else none) = some false
    rw [if_pos (by rw [cM', tM]; rfl)]
    exact s
  · intro q
    have e : D = M := Value.ref.inj (beq_iff_eq.mp q)
    subst e
    rw [sD] at s
    cases s
theorem kit_yes {D M : Addr} (cM : PySem.W.isClsIn K M = true) (tM : PySem.W.typeIn K (.ref M) = some (.type "type")) (s : PySem.W.subIn K (.ref D) (.ref M) = some true) : PySem.W.kitOne K (.ref D) (.ref M) = some true := by
  have cM' : (PySem.W.clsIn K M).isSome = true := cM
  unfold PySem.W.kitOne
  by_cases q : (Value.ref D == Value.ref M) = true
  · rw [if_pos q]
  · rw [if_neg q]
    show (if ((PySem.W.clsIn K M).isSome && PySem.W.typeIn K (.ref M) == some (.type "type")) = true then PySem.W.subIn K (.ref D) (.ref M) else none) = some true
    rw [if_pos (by rw [cM', tM]; rfl)]
    exact s
theorem str_mk {n v s : Str} {t : Tok} (e : mg n = some (.str v t)) (q : v = s) : ∃ t, mg n = some (.str s t) := ⟨t, by rw [← q]; exact e⟩
theorem rc_mk {C : Addr} (pg : PySem.W.plainGet K C Str.empty = true) (hd : PySem.W.hasDictIn K C = true) (po : PySem.W.plainOver K C = true) (sa : PySem.W.findIn K (.ref C) "__setattr__" = some (some (.builtin "object.__setattr__")))
    (n0 : PySem.W.findIn K (.ref C) "name" = some none) (n1 : PySem.W.findIn K (.ref C) "inlets" = some none) (n2 : PySem.W.findIn K (.ref C) "outlets" = some none) (n3 : PySem.W.findIn K (.ref C) "stations" = some none) (n4 : PySem.W.findIn K (.ref C) "links" = some none) (n5 : PySem.W.findIn K (.ref C) "calls" = some none) : ModCls K C := ⟨⟨pg, hd, po, sa⟩, n0, n1, n2, n3, n4, n5⟩
theorem hc_mk {D W M : Addr} (X : K.In h) (G : h.Ns mainGlobals mg) (hg : PySem.W.findIn K (.ref D) "__getattribute__" = some (some (.builtin "BaseException.__getattribute__"))) (hk : PySem.W.findIn K (.ref D) "__getattr__" = some none)
    (hs : PySem.W.subIn K (.ref D) (.type "BaseException") = some true) (hd : PySem.W.hasDictIn K D = true) (ha : PySem.W.findIn K (.ref D) "__class__" = some (some (.builtin "object.__class__")))
    (hn : PySem.W.specialIn K (.builtin "object.__class__") "__get__" = some (some (.builtin "getset_descriptor.__get__"))) (ht : PySem.W.takesIn K (.builtin "object.__class__") = some true) (hm : PySem.W.mroIn K D (.type "object") = some true)
    (nw : PySem.W.findIn K (.ref D) "word" = some none) (tD : PySem.W.typeIn K (.ref D) = some (.type "type")) (sD : PySem.W.subIn K (.ref D) (.ref D) = some true)
    (gD : PySem.W.nsIn K mainGlobals "InvalidModule" = some (some (.ref D))) (gW : PySem.W.nsIn K mainGlobals "WaitError" = some (some (.ref W))) (gM : PySem.W.nsIn K mainGlobals "InvalidHouse" = some (some (.ref M)))
    (cW : PySem.W.isClsIn K W = true) (tW : PySem.W.typeIn K (.ref W) = some (.type "type")) (sW : PySem.W.subIn K (.ref D) (.ref W) = some true)
    (cM : PySem.W.isClsIn K M = true) (tM : PySem.W.typeIn K (.ref M) = some (.type "type")) (sM : PySem.W.subIn K (.ref D) (.ref M) = some false) : HeardM K mg D W M :=
  ⟨⟨hg, hk, hs, hd, ha, hn, ht, hm⟩, nw, PySem.W.exm_ref hs hd tD sD, PySem.W.mg_of X G gD, PySem.W.mg_of X G gW, PySem.W.mg_of X G gM, kit_yes cW tW sW, kit_no sD cM tM sM⟩
end
theorem all_ok {P : Program} {w : World} {K : PySem.W.Frag} {mg : Str → Option Value} {C D W M fa : Addr} (disinteger : Df K mg "is_integer" s_is_integer ["value"]) (disnumber : Df K mg "is_number" s_is_number ["value"]) (dissequence : Df K mg "is_sequence" s_is_sequence ["value"]) (distupleof : Df K mg "is_tuple_of" s_is_tuple_of ["value", "many"]) (disname : Df K mg "is_name" s_is_name ["value"]) (dislink : Df K mg "is_link" s_is_link ["value"]) (dwrongargument : Df K mg "_wrong_argument" s_wrong_argument ["name", "inlets", "outlets", "stations", "links", "calls"]) (darefree : Df K mg "_are_free" s_are_free ["names", "taken"]) (dlabels : Df K mg "_labels" s_labels ["calls"]) (discall : Df K mg "_is_call" s_is_call ["call"]) (disrightlink : Df K mg "_is_right_link" s_is_right_link ["link", "begins", "ends", "labels"]) (dlawbox : Df K mg "_law_box" s_law_box ["script", "k", "own"]) (dlawtake : Df K mg "_law_take" s_law_take ["box", "many"]) (dlawpick : Df K mg "_law_pick" s_law_pick ["box", "items"]) (dlawmixed : Df K mg "_law_mixed" s_law_mixed ["box", "items"]) (dlawnames : Df K mg "_law_names" s_law_names ["box", "many"]) (dlawmodule : Df K mg "_law_module" s_law_module ["box", "name", "sizes", "called"]) (dlawbegins : Df K mg "_law_begins" s_law_begins ["module", "known"]) (dlawgoes : Df K mg "_law_goes" s_law_goes ["module", "known"]) (dlawlinks : Df K mg "_law_links" s_law_links ["box", "module", "known"]) (dlawhouse : Df K mg "_law_house" s_law_house ["box", "many"]) (dlawheard : Df K mg "_law_heard" s_law_heard ["some"]) (dlawwrong : Df K mg "_law_wrong" s_law_wrong ["box", "some", "at"]) (dEnd : DfA K mg "is_end_houses" "_is_end" s_is_end ["end", "names", "labels"]) (dI : DfI K mg C) (dE : DfE K mg D) (tx : Txt mg) (gLt : ∃ t, mg "LETTERS" = some (.str "abcdefghijklmnopqrstuvwxyz" t)) (rc : ModCls K C) (zhc : HeardM K mg D W M) {fd : FuncData} (F : Fun K "law" "law" s_law fa fd) (base : Heap) : FnOk P w K mg base CX0 9 fa fd ["script"] (spLaw K) := by
  have T := tx
  have o1 := ok_is_integer (P := P) (w := w) (base := base) disinteger T
  have o2 := ok_is_number disnumber o1
  have o3 := ok_is_sequence (P := P) (w := w) (base := base) dissequence T
  have o4 := ok_is_tuple_of (P := P) (w := w) (base := base) distupleof T
  have o5 := ok_is_name (P := P) (w := w) (base := base) disname T gLt
  have o6 := ok_is_link dislink T o4 o2
  have o7 := ok_are_free darefree T o5
  have o8 := ok_labels dlabels T o3
  have o9 := ok_is_call discall o4 o5
  have o10 := ok_is_end dEnd o5
  have o11 := ok_is_right disrightlink o6 o10
  have o12 := ok_wrong dwrongargument T o5 o3 o7 o8 o9 o11
  have oE : ErrM P w K mg base D (spErr D) := by
    obtain ⟨fI, fdI, h1, h2, h3, FI, h4, h5⟩ := dE.ex
    exact ⟨fI, fdI, h1, h2, h3, ok_err FI h1 zhc.nw, h4, h5⟩
  obtain ⟨f1, fd1, e1, F1, M1, mC, b1⟩ := dI.ex
  have RM : ModMk P w K mg base C D := ⟨f1, fd1, ok_init F1 rc T oE o12, mC, M1, b1⟩
  have oT := ok_take (P := P) (w := w) (base := base) dlawtake T
  have oP := ok_pick dlawpick T oT
  have oM := ok_mixed dlawmixed T oT
  have oN := ok_names dlawnames oM
  have oB := ok_begins (P := P) (w := w) (base := base) dlawbegins
  have oG := ok_goes (P := P) (w := w) (base := base) dlawgoes
  have oL := ok_links dlawlinks T oT oP oB oG
  have oMo := ok_module dlawmodule T oN oP oL
  have oH := ok_house dlawhouse T oT oMo
  have oHe := ok_heard dlawheard T zhc RM
  have oW := ok_lawWrong dlawwrong T oT oP
  exact ok_law F T (ok_box dlawbox T) oH oHe oT oW
theorem end_mk {P : Program} {w : World} {K : PySem.W.Frag} {h : Heap} {mg : Str → Option Value} {C D W M fa f : Addr} (X : K.In h) (G : h.Ns mainGlobals mg) (hfa : mg "law" = some (.ref fa))
    {oc : Value} {od an : Option Addr} {osl : Array (Option Value)} {kV doc pm cdv ct : Value}
    (a : PySem.W.nsIn K mainGlobals "law" = some (some (.ref f))) (l : K.lookup f = some ⟨oc, od, .func (PySem.W.fnOf "law" "law" (defArgs s_law) (defBody s_law) (defScope s_law) .none kV doc pm an cdv ct), osl⟩) (c : PySem.W.codeIn K cdv "law" = true) (k : PySem.W.keepIn K (.ref f) = true)
    (disinteger : Df K mg "is_integer" s_is_integer ["value"]) (disnumber : Df K mg "is_number" s_is_number ["value"]) (dissequence : Df K mg "is_sequence" s_is_sequence ["value"]) (distupleof : Df K mg "is_tuple_of" s_is_tuple_of ["value", "many"]) (disname : Df K mg "is_name" s_is_name ["value"]) (dislink : Df K mg "is_link" s_is_link ["value"]) (dwrongargument : Df K mg "_wrong_argument" s_wrong_argument ["name", "inlets", "outlets", "stations", "links", "calls"]) (darefree : Df K mg "_are_free" s_are_free ["names", "taken"]) (dlabels : Df K mg "_labels" s_labels ["calls"]) (discall : Df K mg "_is_call" s_is_call ["call"]) (disrightlink : Df K mg "_is_right_link" s_is_right_link ["link", "begins", "ends", "labels"]) (dlawbox : Df K mg "_law_box" s_law_box ["script", "k", "own"]) (dlawtake : Df K mg "_law_take" s_law_take ["box", "many"]) (dlawpick : Df K mg "_law_pick" s_law_pick ["box", "items"]) (dlawmixed : Df K mg "_law_mixed" s_law_mixed ["box", "items"]) (dlawnames : Df K mg "_law_names" s_law_names ["box", "many"]) (dlawmodule : Df K mg "_law_module" s_law_module ["box", "name", "sizes", "called"]) (dlawbegins : Df K mg "_law_begins" s_law_begins ["module", "known"]) (dlawgoes : Df K mg "_law_goes" s_law_goes ["module", "known"]) (dlawlinks : Df K mg "_law_links" s_law_links ["box", "module", "known"]) (dlawhouse : Df K mg "_law_house" s_law_house ["box", "many"]) (dlawheard : Df K mg "_law_heard" s_law_heard ["some"]) (dlawwrong : Df K mg "_law_wrong" s_law_wrong ["box", "some", "at"]) (dEnd : DfA K mg "is_end_houses" "_is_end" s_is_end ["end", "names", "labels"]) (dI : DfI K mg C) (dE : DfE K mg D) (tx : Txt mg) (gLt : ∃ t, mg "LETTERS" = some (.str "abcdefghijklmnopqrstuvwxyz" t)) (rc : ModCls K C) (zhc : HeardM K mg D W M) :
    ∃ fd : FuncData, (∀ (s : Shared) (v : Value), BindsTo s fd ⟨[v], []⟩ [("script", v)]) ∧ ∀ base : Heap, K.In base → base.Ns mainGlobals mg → FnOk P w K mg base CX0 9 fa fd ["script"] (spLaw K) := by
  have e := hfa.symm.trans (PySem.W.mg_of X G a)
  cases e
  exact ⟨_, fun s v => .of_eq rfl, fun base _ _ => all_ok disinteger disnumber dissequence distupleof disname dislink dwrongargument darefree dlabels discall disrightlink dlawbox dlawtake dlawpick dlawmixed dlawnames dlawmodule dlawbegins dlawgoes dlawlinks dlawhouse dlawheard dlawwrong dEnd dI dE tx gLt rc zhc (fun_mk (st := s_law) l c k) base⟩
end My

open PySem PySem.W PyProof.Rows in
set_option maxHeartbeats 0 in
theorem PySem.Challenge.cw_waitworks_k10_modules_refused_holds : PySem.Challenge.rw_waitworks_k10_modules_refused.Holds := by
  w_on; o_law; k_head; (case hw => w_witness2)
  k_fill
  refine L2.walk_of (l := PySem.Challenge.rw_waitworks_k10_modules_refused) (n := 63) (k := 9) (x := "script") (CX := fun _ => L2.CX0) (sp := fun w => My.spLaw _) rfl (by decide) rfl ⟨rfl, by decide, by decide⟩ (fun w h Y => PySem.W.kIn_of Y) ?F (fun _ _ a ns hl _ hS => ⟨a, ns, rfl, hS, hl, fun _ => rfl⟩) (fun _ _ _ _ _ h => h)
  case F =>
    intro w mg fa h KX G hmg
    refine' My.end_mk KX G hmg ?aL ?lL ?cL ?kL ?disinteger ?disnumber ?dissequence ?distupleof ?disname ?dislink ?dwrongargument ?darefree ?dlabels ?discall ?disrightlink ?dlawbox ?dlawtake ?dlawpick ?dlawmixed ?dlawnames ?dlawmodule ?dlawbegins ?dlawgoes ?dlawlinks ?dlawhouse ?dlawheard ?dlawwrong ?dEnd ?dI ?dE ?tx ?gLt ?rc ?zhc
    (case aL => k_is)
    (case lL => k_is)
    (case cL => k_is)
    (case kL => k_is)
    (case disinteger => (refine' My.df_mk KX G ?a ?l ?c ?k (fun _ _ _ _ _ _ us hl => match us, hl with | [_], _ => rfl)); (case a => k_is); (case l => k_is); (case c => k_is); (case k => k_is))
    (case disnumber => (refine' My.df_mk KX G ?a ?l ?c ?k (fun _ _ _ _ _ _ us hl => match us, hl with | [_], _ => rfl)); (case a => k_is); (case l => k_is); (case c => k_is); (case k => k_is))
    (case dissequence => (refine' My.df_mk KX G ?a ?l ?c ?k (fun _ _ _ _ _ _ us hl => match us, hl with | [_], _ => rfl)); (case a => k_is); (case l => k_is); (case c => k_is); (case k => k_is))
    (case distupleof => (refine' My.df_mk KX G ?a ?l ?c ?k (fun _ _ _ _ _ _ us hl => match us, hl with | [_, _], _ => rfl)); (case a => k_is); (case l => k_is); (case c => k_is); (case k => k_is))
    (case disname => (refine' My.df_mk KX G ?a ?l ?c ?k (fun _ _ _ _ _ _ us hl => match us, hl with | [_], _ => rfl)); (case a => k_is); (case l => k_is); (case c => k_is); (case k => k_is))
    (case dislink => (refine' My.df_mk KX G ?a ?l ?c ?k (fun _ _ _ _ _ _ us hl => match us, hl with | [_], _ => rfl)); (case a => k_is); (case l => k_is); (case c => k_is); (case k => k_is))
    (case dwrongargument => (refine' My.df_mk KX G ?a ?l ?c ?k (fun _ _ _ _ _ _ us hl => match us, hl with | [_, _, _, _, _, _], _ => rfl)); (case a => k_is); (case l => k_is); (case c => k_is); (case k => k_is))
    (case darefree => (refine' My.df_mk KX G ?a ?l ?c ?k (fun _ _ _ _ _ _ us hl => match us, hl with | [_, _], _ => rfl)); (case a => k_is); (case l => k_is); (case c => k_is); (case k => k_is))
    (case dlabels => (refine' My.df_mk KX G ?a ?l ?c ?k (fun _ _ _ _ _ _ us hl => match us, hl with | [_], _ => rfl)); (case a => k_is); (case l => k_is); (case c => k_is); (case k => k_is))
    (case discall => (refine' My.df_mk KX G ?a ?l ?c ?k (fun _ _ _ _ _ _ us hl => match us, hl with | [_], _ => rfl)); (case a => k_is); (case l => k_is); (case c => k_is); (case k => k_is))
    (case disrightlink => (refine' My.df_mk KX G ?a ?l ?c ?k (fun _ _ _ _ _ _ us hl => match us, hl with | [_, _, _, _], _ => rfl)); (case a => k_is); (case l => k_is); (case c => k_is); (case k => k_is))
    (case dlawbox => (refine' My.df_mk KX G ?a ?l ?c ?k (fun _ _ _ _ _ _ us hl => match us, hl with | [_, _, _], _ => rfl)); (case a => k_is); (case l => k_is); (case c => k_is); (case k => k_is))
    (case dlawtake => (refine' My.df_mk KX G ?a ?l ?c ?k (fun _ _ _ _ _ _ us hl => match us, hl with | [_, _], _ => rfl)); (case a => k_is); (case l => k_is); (case c => k_is); (case k => k_is))
    (case dlawpick => (refine' My.df_mk KX G ?a ?l ?c ?k (fun _ _ _ _ _ _ us hl => match us, hl with | [_, _], _ => rfl)); (case a => k_is); (case l => k_is); (case c => k_is); (case k => k_is))
    (case dlawmixed => (refine' My.df_mk KX G ?a ?l ?c ?k (fun _ _ _ _ _ _ us hl => match us, hl with | [_, _], _ => rfl)); (case a => k_is); (case l => k_is); (case c => k_is); (case k => k_is))
    (case dlawnames => (refine' My.df_mk KX G ?a ?l ?c ?k (fun _ _ _ _ _ _ us hl => match us, hl with | [_, _], _ => rfl)); (case a => k_is); (case l => k_is); (case c => k_is); (case k => k_is))
    (case dlawmodule => (refine' My.df_mk KX G ?a ?l ?c ?k (fun _ _ _ _ _ _ us hl => match us, hl with | [_, _, _, _], _ => rfl)); (case a => k_is); (case l => k_is); (case c => k_is); (case k => k_is))
    (case dlawbegins => (refine' My.df_mk KX G ?a ?l ?c ?k (fun _ _ _ _ _ _ us hl => match us, hl with | [_, _], _ => rfl)); (case a => k_is); (case l => k_is); (case c => k_is); (case k => k_is))
    (case dlawgoes => (refine' My.df_mk KX G ?a ?l ?c ?k (fun _ _ _ _ _ _ us hl => match us, hl with | [_, _], _ => rfl)); (case a => k_is); (case l => k_is); (case c => k_is); (case k => k_is))
    (case dlawlinks => (refine' My.df_mk KX G ?a ?l ?c ?k (fun _ _ _ _ _ _ us hl => match us, hl with | [_, _, _], _ => rfl)); (case a => k_is); (case l => k_is); (case c => k_is); (case k => k_is))
    (case dlawhouse => (refine' My.df_mk KX G ?a ?l ?c ?k (fun _ _ _ _ _ _ us hl => match us, hl with | [_, _], _ => rfl)); (case a => k_is); (case l => k_is); (case c => k_is); (case k => k_is))
    (case dlawheard => (refine' My.df_mk KX G ?a ?l ?c ?k (fun _ _ _ _ _ _ us hl => match us, hl with | [_], _ => rfl)); (case a => k_is); (case l => k_is); (case c => k_is); (case k => k_is))
    (case dlawwrong => (refine' My.df_mk KX G ?a ?l ?c ?k (fun _ _ _ _ _ _ us hl => match us, hl with | [_, _, _], _ => rfl)); (case a => k_is); (case l => k_is); (case c => k_is); (case k => k_is))
    (case dEnd => (refine' My.dfa_mk KX G ?a ?l ?c ?k (fun _ _ _ _ _ _ us hl => match us, hl with | [_, _, _], _ => rfl)); (case a => k_is); (case l => k_is); (case c => k_is); (case k => k_is))
    (case dI => (refine' My.dfi_mk KX G ?aC ?a ?i ?mk ?kc ?l ?lT ?oT ?c ?k); (case aC => k_is); (case a => k_is); (case i => k_is); (case mk => k_is); (case kc => k_is); (case l => k_is); (case lT => k_is); (case oT => rfl); (case c => k_is); (case k => k_is))
    (case dE => (refine' My.dfe_mk KX G ?aD ?xL ?sa ?eC ?tC ?kC ?a1 ?t1 ?l ?c ?k); (case aD => k_is); (case xL => k_is); (case sa => k_is); (case eC => k_is); (case tC => k_is); (case kC => k_is); (case a1 => k_is); (case t1 => k_is); (case l => k_is); (case c => k_is); (case k => k_is))
    (case tx => refine' ⟨mg_none_of KX G ?_, mg_none_of KX G ?_, mg_none_of KX G ?_, mg_none_of KX G ?_, mg_none_of KX G ?_, mg_none_of KX G ?_, mg_none_of KX G ?_, mg_none_of KX G ?_, mg_none_of KX G ?_, mg_none_of KX G ?_, mg_none_of KX G ?_, mg_none_of KX G ?_, mg_none_of KX G ?_, mg_none_of KX G ?_, mg_none_of KX G ?_⟩ <;> k_is)
    (case gLt => (refine' My.str_mk (mg_of KX G ?ge) ?gq); (case ge => k_is); (case gq => first | rfl | decide +kernel))
    (case rc => (refine' My.rc_mk ?pg ?hd ?po ?sa ?n0 ?n1 ?n2 ?n3 ?n4 ?n5); (case pg => k_is); (case hd => k_is); (case po => k_is); (case sa => k_is); (case n0 => k_is); (case n1 => k_is); (case n2 => k_is); (case n3 => k_is); (case n4 => k_is); (case n5 => k_is))
    (case zhc => (refine' My.hc_mk KX G ?hg ?hk ?hs ?hd ?ha ?hn ?ht ?hm ?nw ?tD ?sD ?gD ?gW ?gM ?cW ?tW ?sW ?cM ?tM ?sM); (case gD => k_is); (case gW => k_is); (case gM => k_is); (case hg => k_is); (case hk => k_is); (case hs => k_is); (case hd => k_is); (case ha => k_is); (case hn => k_is); (case ht => k_is); (case hm => first | rfl | k_is); (case nw => k_is); (case tD => k_is); (case sD => first | rfl | k_is); (case cW => k_is); (case tW => k_is); (case sW => first | rfl | k_is); (case cM => k_is); (case tM => k_is); (case sM => first | rfl | k_is))
