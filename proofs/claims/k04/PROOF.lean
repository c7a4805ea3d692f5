import PyProof.Rows.All
import Wide.All
import OpenK.AllK
import Wide.FinOn
import HandS.ForMost
import HandS.Codes
import HandS.IsInst
import HandS.Property
import HandS.Star
import HandS.Gcd
import HandS.Defaults
import HandS.Walk
import HandS.OwnEq
import HandS.SlotsOwn
import HandS.Strs
import KE.KCallOwn
import HandS.SetFor
import HandS.ExcOwn
import HandS.WordsExc
import HandS.ClsMeth
import HandS.Exc
import HandS.TryMany
import HandS.ExcInit
import HandS.ExcField
import KE.KExcIs
import HandS.Text
import KE.IntTextLaws
import KE.IntTextText
import HandS.ExcIs
import HandS.Style
import PySem.Challenge.RW_waitworks_k04_texts_of_rows
set_option Elab.async false
set_option maxRecDepth 100000
set_option autoImplicit false
namespace My
open PySem PySem.Spec PyProof.Rows L2
/-! ## general: either of two readings; defs and methods as one fact each; heaps -/
section
variable {X : Cx}
/-- either of two readings of an expression -/
theorem pe_alt {e : Expr} {t1 t2 : TE} (h1 : PE X e t1) (h2 : PE X e t2) : PE X e (fun σ H Q => t1 σ H Q ∨ t2 σ H Q) :=
  ⟨fun pins s σ H Q I h => h.elim (h1.run pins s σ H Q I) (h2.run pins s σ H Q I)⟩
theorem pi_alt {g e : Expr} {t1 t2 : TI} (h1 : PI X g e t1) (h2 : PI X g e t2) : PI X g e (fun σ H R => t1 σ H R ∨ t2 σ H R) :=
  ⟨fun pins s σ H R I h => h.elim (h1.run pins s σ H R I) (h2.run pins s σ H R I)⟩
theorem pss_alt {ss : List Stmt} {t1 t2 : TS} (h1 : PSs X ss t1) (h2 : PSs X ss t2) : PSs X ss (fun D σ H => t1 D σ H ∨ t2 D σ H) :=
  ⟨fun pins s σ H D I h => h.elim (h1.run pins s σ H D I) (h2.run pins s σ H D I)⟩
end
section
variable {P : Program} {w : World} {K : PySem.W.Frag} {mg : Str → Option Value} {base : Heap}
/-- the module's name x is a def that keeps a promise -/
structure Own (P : Program) (w : World) (K : PySem.W.Frag) (mg : Str → Option Value) (base : Heap) (x : Str) (k : Nat) (ps : List Str) (sp : Sp) : Prop where
  ex : ∃ f fd, FnOk P w K mg base CX0 k f fd ps sp ∧ mg x = some (.ref f) ∧ PySem.W.keepIn K (.ref f) = true ∧ Binds K fd ps []
/-- the module's name x is the def st -/
structure Df (K : PySem.W.Frag) (mg : Str → Option Value) (x : Str) (st : Stmt) (ps : List Str) : Prop where
  ex : ∃ f fd, Fun K x x st f fd ∧ mg x = some (.ref f) ∧ Binds K fd ps []
theorem Df.own {x : Str} {st : Stmt} {ps N : List Str} {k : Nat} {sp : Sp} (D : Df K mg x st ps) (S : FnScope N ps (defScope st)) (len : ∀ vs H Q E, sp vs H Q E → vs.length = ps.length)
    (hbody : ∀ (f : Addr) (cdv : Value) (A : Around) (outer : List Env) (s : Shared) (H : Hp) (vs : List V) (Q : VK) (E : XK), Room k (A.deeper (envOfC x (defScope st) s.heap.objs.size f cdv)) → sp vs H Q E →
      ∃ t, PSs (cxOf CX0 P w K mg base N x (defScope st) f cdv A outer s H E).nox (defBody st) t ∧ t { nx := fun _ H' => Q .non H', rt := Q } (start N vs) H) : Own P w K mg base x (k + 1) ps sp := by
  obtain ⟨f, fd, F, m, b⟩ := D.ex
  exact ⟨f, fd, F.ok S len (hbody f), m, F.kp, b⟩
theorem Own.imp {x : Str} {k j : Nat} {ps : List Str} {sp sp' : Sp} (O : Own P w K mg base x k ps sp) (hk : k ≤ j) (h : ∀ vs H Q E, sp' vs H Q E → sp vs H Q E) : Own P w K mg base x j ps sp' := by
  obtain ⟨f, fd, F, r⟩ := O.ex
  exact ⟨f, fd, (F.mono hk).imp h, r⟩
/-- a method of the class at C -/
structure Mth (P : Program) (w : World) (K : PySem.W.Frag) (mg : Str → Option Value) (base : Heap) (C : Addr) (m : Str) (k : Nat) (ps : List Str) (sp : Sp) : Prop where
  ex : ∃ f fd, FnOk P w K mg base CX0 k f fd ps sp ∧ Meth K C m f ∧ Binds K fd ps []
structure Prp (P : Program) (w : World) (K : PySem.W.Frag) (mg : Str → Option Value) (base : Heap) (C : Addr) (m : Str) (k : Nat) (ps : List Str) (sp : Sp) : Prop where
  ex : ∃ p f fd, FnOk P w K mg base CX0 k f fd ps sp ∧ PropOf K C m p f ∧ Binds K fd ps []
/-- the module's name x is a class whose __init__ keeps a promise -/
structure Mks (P : Program) (w : World) (K : PySem.W.Frag) (mg : Str → Option Value) (base : Heap) (x : Str) (C : Addr) (k : Nat) (ps : List Str) (sp : Sp) : Prop where
  ex : ∃ f fd, FnOk P w K mg base CX0 k f fd ps sp ∧ mg x = some (.ref C) ∧ Mk K C f ∧ Binds K fd ps []
end
section
variable {X : Cx} {x m : Str} {p pos apos : Pos} {e o : Expr} {es : List Expr} {t : TA} {ta : TE} {k : Nat} {ps : List Str} {sp : Sp} {C : Addr}
theorem pe_own (O : Own X.prog X.w X.K X.mg X.base x k ps sp) (hr : Room k X.A) (ha : PA X (e :: es) t) (hg : Gl X x := by exact rfl) (hdb : (x == ("__debug__" : Str)) = false := by decide)
    (he : starEach (e :: es) X.env = (false, eval e X.env) :: starEach es X.env := by rfl) (hpl : (backTo pos (starEach es X.env)).any (·.1) = false := by rfl) : PE X (.Call (.Name x p) (e :: es) [] pos) (tCall sp [] E0 t) := by
  obtain ⟨f, fd, G, hm, hk, hb⟩ := O.ex
  exact pe_call G hr hg hm hk hb .nil pass0 ha hdb he hpl
theorem pe_own0 (O : Own X.prog X.w X.K X.mg X.base x k ps sp) (hr : Room k X.A) (hg : Gl X x := by exact rfl) (hdb : (x == ("__debug__" : Str)) = false := by decide) : PE X (.Call (.Name x p) [] [] pos) (tCall sp [] E0 tNil) := by
  obtain ⟨f, fd, G, hm, hk, hb⟩ := O.ex
  exact pe_call0 G hr hg hm hk hb .nil pass0 hdb
theorem pe_mks (O : Mks X.prog X.w X.K X.mg X.base x C k ps sp) (hr : Room (k + 1) X.A) (ha : PA X (e :: es) t) (hg : Gl X x := by exact rfl) (hdb : (x == ("__debug__" : Str)) = false := by decide)
    (he : starEach (e :: es) X.env = (false, eval e X.env) :: starEach es X.env := by rfl) (hpl : (backTo pos (starEach es X.env)).any (·.1) = false := by rfl) : PE X (.Call (.Name x p) (e :: es) [] pos) (tMake C sp [] E0 t) := by
  obtain ⟨f, fd, G, hm, M, hb⟩ := O.ex
  exact pe_make M G hr hg hm hb .nil pass0 ha hdb he hpl
theorem pe_mth (c : Cls X.K C) (O : Mth X.prog X.w X.K X.mg X.base C m k ps sp) (hr : Room k X.A) (he : PE X o ta) (ha : PA X (e :: es) t)
    (hst : starEach (e :: es) X.env = (false, eval e X.env) :: starEach es X.env := by rfl) (hpl : (backTo pos (starEach es X.env)).any (·.1) = false := by rfl)
    {pl : Sem Bool} (ht : eval (.Call (.Attribute o m apos) (e :: es) [] pos) X.env = (do
      let ov ← eval o X.env
      standAt apos.atName
      let (f, first) ← holding [ov] (getMethod ov m pl)
      callWith pos f first (backTo pos (starEach (e :: es) X.env)) (backToKw pos (keywordEach [] X.env))) := by rfl) : PE X (.Call (.Attribute o m apos) (e :: es) [] pos) (tMeth C m sp [] E0 ta t) := by
  obtain ⟨f, fd, G, M, hb⟩ := O.ex
  exact pe_meth he c M G hr hb .nil pass0 ha hst hpl ht
theorem pe_prp (c : Cls X.K C) (O : Prp X.prog X.w X.K X.mg X.base C m k ps sp) (hr : Room (k + 1) X.A) (he : PE X o ta) (hab : attributeBase o m X.env (eval o X.env) = eval o X.env := by rfl) : PE X (.Attribute o m pos) (tProp C sp [] E0 ta) := by
  obtain ⟨q, f, fd, G, M, hb⟩ := O.ex
  exact pe_prop he c M G hr hb .nil pass0 hab
end
/-! ## heaps -/
theorem same_upd {H : Hp} {p : Addr} {o : HO} (h : H p = none) : Same H (upd H p o) := fun b x e => by
  rw [upd_ne (ne_of_none e h)]
  exact e
theorem _root_.L2.Same.seqT {K : PySem.W.Frag} {H H' : Hp} {a : Addr} {xs : List V} (e : Same H H') (h : SqT K H a xs) : SqT K H' a xs := by
  rcases h with (h | ⟨o, h⟩) | h
  · exact .inl (.inl (e _ _ h))
  · exact .inl (.inr ⟨o, e _ _ h⟩)
  · exact .inr h
theorem new_lst {Q : VK} {xs : List V} {H : Hp} (hl : xs.length ≤ sizeLine) (h : ∀ p H', Same H H' → H p = none → H' p = some (.lst xs) → Q (.ref p) H') : xs.length ≤ sizeLine ∧ ∀ p, H p = none → Q (.ref p) (upd H p (.lst xs)) :=
  ⟨hl, fun p hp => h p _ (same_upd hp) hp upd_same⟩
theorem new_tup {Q : VK} {xs : List V} {H : Hp} (hl : xs.length ≤ sizeLine) (h : ∀ p H', Same H H' → H p = none → H' p = some (.tup xs) → Q (.ref p) H') : xs.length ≤ sizeLine ∧ ∀ p, H p = none → Q (.ref p) (upd H p (.tup xs)) :=
  ⟨hl, fun p hp => h p _ (same_upd hp) hp upd_same⟩
theorem new_o {Q : VK} {o : HO} {H : Hp} (h : ∀ p H', Same H H' → H p = none → H' p = some o → Q (.ref p) H') : ∀ p, H p = none → Q (.ref p) (upd H p o) :=
  fun p hp => h p _ (same_upd hp) hp upd_same
end My
namespace My
open PySem PySem.Spec PyProof.Rows L2
/-! ## readings in one step -/
theorem rd_isi {K : PySem.W.Frag} {H : Hp} {Q : VK} {x : V} {m : String} (n : String) (b : Bool) (ty : TyX K H x (.type n)) (h : kitB n m = some b) (q : Q (.bl b) H) : rIsi K [x, .ty m] H Q :=
  ⟨_, _, _, _, _, rfl, .ty _, ty, kit_ty h, q⟩
theorem rd_isi2 {K : PySem.W.Frag} {H : Hp} {Q : VK} {x : V} {m m' : String} {tp : Addr} (n : String) (b b' : Bool) (ht : H tp = some (.tup [.ty m, .ty m'])) (ty : TyX K H x (.type n)) (h : kitB n m = some b) (h' : kitB n m' = some b') (q : Q (.bl (b || b')) H) : rIsiT K [x, .ref tp] H Q :=
  ⟨_, _, _, _, _, _, rfl, ht, .cons (.ty _) (.cons (.ty _) .nil), ty, kitAny_cons (kit_ty h) (fun e => kitAny_cons (r := b || b') (kit_ty h') (fun e' => by rw [e, e']; rfl) (fun e' => by rw [e, e']; rfl)) (fun e => by rw [e]; rfl), q⟩
end My
namespace My
open PySem PySem.Spec PyProof.Rows L2
/-! ## a list or a tuple -/
def SqS (K : PySem.W.Frag) (H : Hp) (a : Addr) (xs : List V) : Prop := SqL K H a xs ∨ SqT K H a xs
theorem _root_.L2.Same.sqs {K : PySem.W.Frag} {H H' : Hp} {a : Addr} {xs : List V} (e : Same H H') (h : SqS K H a xs) : SqS K H' a xs := h.imp e.seq e.seqT
/-- how a walk over such a thing goes, as long as what is tracked in H0 stands -/
structure SeqIt (H0 : Hp) (xs : List V) (J : It) : Prop where
  go : ∀ i H, Same H0 H → i < xs.length → J.go i H
  yld : ∀ i H x H', Same H0 H → J.yld i H x H' → H' = H ∧ xs[i]? = some x
  stop : ∀ i H, Same H0 H → xs.length ≤ i → J.stop i H
theorem seqIt_l {K : PySem.W.Frag} {H0 : Hp} {a : Addr} {xs : List V} (h : SqL K H0 a xs) : SeqIt H0 xs (Itl K a) :=
  ⟨fun i H s l => ⟨xs, xs[i], s.seq h, by simp [l]⟩, fun i H x H' s y => ⟨y.1, y.2 xs (s.seq h)⟩, fun i H s l => ⟨xs, s.seq h, l⟩⟩
theorem seqIt_t {K : PySem.W.Frag} {H0 : Hp} {a : Addr} {xs : List V} (h : SqT K H0 a xs) : SeqIt H0 xs (Itt K a) :=
  ⟨fun i H s l => ⟨xs, xs[i], s.seqT h, by simp [l]⟩, fun i H x H' s y => ⟨y.1, y.2 xs (s.seqT h)⟩, fun i H s l => ⟨xs, s.seqT h, l⟩⟩
theorem seq_pi {K : PySem.W.Frag} {a : Addr} {xs : List V} {i : Nat} {σ : L2.St} {H : Hp} {R : It → Hp → Prop} (h : SqS K H a xs) (hv : σ[i]? = some (some (.ref a))) (hR : ∀ J, SeqIt H xs J → R J H) : iList K (tVar i) σ H R ∨ iTup K (tVar i) σ H R :=
  h.elim (fun h => Or.inl ⟨_, hv, a, rfl, ⟨_, h⟩, hR _ (seqIt_l h)⟩) fun h => Or.inr ⟨_, hv, a, rfl, ⟨_, h⟩, hR _ (seqIt_t h)⟩
theorem for_seq {J : It} {H0 : Hp} {xs : List V} {g : TG} {tb : TS} {D : Ends} {σ : L2.St} {H : Hp} (hJ : SeqIt H0 xs J) (Pv : Nat → L2.St → Hp → Prop) (h0 : Pv 0 σ H) (hl : ∀ i σ H, Pv i σ H → Same H0 H)
    (hs : ∀ i x σ H, xs[i]? = some x → Pv i σ H → g x σ H fun σ2 H2 => tb { D with nx := Pv (i + 1), ct := Pv (i + 1), bk := D.nx } σ2 H2) (hd : ∀ σ H, Pv xs.length σ H → D.nx σ H) :
    ∃ W : Nat → Nat → L2.St → Hp → Prop, (∃ m, W 0 m σ H) ∧ ∀ i m σ H, W i m σ H →
      (J.stop i H ∧ D.nx σ H) ∨ (J.go i H ∧ ∃ N : L2.St → Hp → Prop, (∀ σ' H', N σ' H' → ∃ m', m' < m ∧ W (i + 1) m' σ' H') ∧ ∀ x H', J.yld i H x H' → g x σ H' fun σ2 H2 => tb { D with nx := N, ct := N, bk := D.nx } σ2 H2) := by
  refine ⟨fun i m σ H => m + i = xs.length ∧ Pv i σ H, ⟨xs.length, by omega, h0⟩, fun i m σ H q => ?_⟩
  obtain ⟨em, p⟩ := q
  have s := hl i σ H p
  by_cases hlt : i < xs.length
  · refine Or.inr ⟨hJ.go i H s hlt, Pv (i + 1), fun σ' H' p' => ⟨m - 1, by omega, by omega, p'⟩, fun x H' y => ?_⟩
    obtain ⟨rfl, e⟩ := hJ.yld i H x H' s y
    exact hs i x _ _ e p
  · have e : i = xs.length := by omega
    subst e
    exact Or.inl ⟨hJ.stop _ H s (Nat.le_refl _), hd _ _ p⟩
theorem lc_seq {J : It} {H0 : Hp} {xs : List V} {g : TG} {tt : TT} {te : TE} {vs : List Nat} {σ : L2.St} {H1 : Hp} {D : Addr} {Qd : Hp → Prop} (hJ : SeqIt H0 xs J) (Pv : Nat → Hp → Prop) (h0 : Pv 0 (upd H1 D (.lst []))) (hl : ∀ i H, Pv i H → Same H0 H)
    (hs : ∀ i x H, xs[i]? = some x → Pv i H → g x (wipe σ vs) H fun σ2 H2 => wipe σ2 vs = wipe σ vs ∧ tt σ2 H2 fun b H3 =>
      if b = true then te σ2 H3 fun y H4 => ∃ acc, H4 D = some (.lst acc) ∧ acc.length < sizeLine ∧ Pv (i + 1) (upd H4 D (.lst (acc ++ [y]))) else Pv (i + 1) H3) (hd : ∀ H, Pv xs.length H → Qd H) :
    ∃ W : Nat → Nat → Hp → Prop, (∃ m, W 0 m (upd H1 D (.lst []))) ∧ ∀ i m H, W i m H →
      (J.stop i H ∧ Qd H) ∨ (J.go i H ∧ ∃ Nx : Hp → Prop, (∀ H', Nx H' → ∃ m', m' < m ∧ W (i + 1) m' H') ∧ ∀ x H', J.yld i H x H' → g x (wipe σ vs) H' fun σ2 H2 => wipe σ2 vs = wipe σ vs ∧ tt σ2 H2 fun b H3 =>
        if b = true then te σ2 H3 fun y H4 => ∃ acc, H4 D = some (.lst acc) ∧ acc.length < sizeLine ∧ Nx (upd H4 D (.lst (acc ++ [y]))) else Nx H3) := by
  refine ⟨fun i m H => m + i = xs.length ∧ Pv i H, ⟨xs.length, by omega, h0⟩, fun i m H q => ?_⟩
  obtain ⟨em, p⟩ := q
  have s := hl i H p
  by_cases hlt : i < xs.length
  · refine Or.inr ⟨hJ.go i H s hlt, Pv (i + 1), fun H' p' => ⟨m - 1, by omega, by omega, p'⟩, fun x H' y => ?_⟩
    obtain ⟨rfl, e⟩ := hJ.yld i H x H' s y
    exact hs i x _ e p
  · have e : i = xs.length := by omega
    subst e
    exact Or.inl ⟨hJ.stop _ H s (Nat.le_refl _), hd _ p⟩
theorem new_facts {H H1 : Hp} {p : Addr} {o : HO} (hp : H p = none) (hq : upd H p o = H1) : Same H H1 ∧ H1 p = some o := by
  subst hq
  exact ⟨same_upd hp, upd_same⟩
theorem _root_.L2.Same.upd1 {H0 H : Hp} {p : Addr} {o : HO} (s : Same H0 H) (hp : H0 p = none) : Same H0 (upd H p o) := fun b x e => by
  rw [upd_ne (ne_of_none e hp)]
  exact s _ _ e
end My

namespace My
open PySem PySem.Spec PyProof.Rows L2
theorem Same.at {H H' : Hp} {a : Addr} {o : HO} (e : Same H H') (h : H a = some o) : H' a = some o := e _ _ h
/-- a comprehension's new list: what f gives of the turns so far -/
structure LcP (H1 : Hp) (D : Addr) (f : Nat → Option V) (i : Nat) (H : Hp) : Prop where
  same : Same H1 H
  lst : H D = some (.lst ((List.range i).filterMap f))
theorem fm_len (f : Nat → Option V) (i : Nat) : ((List.range i).filterMap f).length ≤ i := by
  have := List.length_filterMap_le f (List.range i)
  rw [List.length_range] at this
  exact this
theorem LcP.zero {H1 : Hp} {D : Addr} {f : Nat → Option V} (n : H1 D = none) : LcP H1 D f 0 (upd H1 D (.lst [])) := ⟨same_upd n, upd_same⟩
theorem LcP.yes {H1 H H4 : Hp} {D : Addr} {f : Nat → Option V} {i : Nat} {y : V} (p : LcP H1 D f i H) (s : Same H H4) (n : H1 D = none) (hi : i < sizeLine) (e : f i = some y) :
    ∃ acc, H4 D = some (.lst acc) ∧ acc.length < sizeLine ∧ LcP H1 D f (i + 1) (upd H4 D (.lst (acc ++ [y]))) := by
  refine ⟨_, s _ _ p.lst, Nat.lt_of_le_of_lt (fm_len f i) hi, (p.same.trans s).upd1 n, ?_⟩
  rw [upd_same, List.range_succ, List.filterMap_append, List.filterMap_cons, e, List.filterMap_nil]
theorem LcP.no {H1 H H3 : Hp} {D : Addr} {f : Nat → Option V} {i : Nat} (p : LcP H1 D f i H) (s : Same H H3) (e : f i = none) : LcP H1 D f (i + 1) H3 := by
  refine ⟨p.same.trans s, ?_⟩
  rw [s _ _ p.lst, List.range_succ, List.filterMap_append, List.filterMap_cons, e, List.filterMap_nil, List.append_nil]
theorem fm_join {β : Type} : ∀ (zs : List (Option β)), (List.range zs.length).filterMap (fun i => (zs[i]?).join) = zs.filterMap id
  | [] => rfl
  | z :: zs => by
    rw [List.length_cons, List.range_succ_eq_map, List.filterMap_cons, List.filterMap_map]
    have e : (fun (j : Nat) => ((z :: zs)[j]?).join) ∘ Nat.succ = fun (j : Nat) => (zs[j]?).join := by
      funext j
      rfl
    rw [e, fm_join zs]
    cases z <;> rfl
theorem fm_opt {α β : Type} (xs : List α) (g : α → Option β) : (List.range xs.length).filterMap (fun i => (xs[i]?).bind g) = xs.filterMap g := by
  have e : (fun (i : Nat) => (xs[i]?).bind g) = fun (i : Nat) => ((xs.map g)[i]?).join := by
    funext i
    rw [List.getElem?_map]
    cases xs[i]? <;> rfl
  rw [e, show xs.length = (xs.map g).length from (List.length_map ..).symm, fm_join, List.filterMap_map]
  rfl
theorem fm_get {α β : Type} (xs : List α) (g : α → β) : (List.range xs.length).filterMap (fun i => (xs[i]?).map g) = xs.map g := by
  have e : (fun (i : Nat) => (xs[i]?).map g) = fun (i : Nat) => (xs[i]?).bind fun x => some (g x) := by
    funext i
    cases xs[i]? <;> rfl
  rw [e, fm_opt]
  exact congrFun (List.filterMap_eq_map (f := g)) xs
theorem fm_if {α β : Type} (xs : List α) (p : α → Bool) (g : α → β) : (List.range xs.length).filterMap (fun i => (xs[i]?).bind fun x => if p x = true then some (g x) else none) = (xs.filter p).map g := by
  rw [fm_opt]
  induction xs with
  | nil => rfl
  | cons x xs ih =>
    by_cases c : p x = true
    · rw [List.filterMap_cons, if_pos c, List.filter_cons_of_pos c, List.map_cons, ih]
    · rw [List.filterMap_cons, if_neg c, List.filter_cons_of_neg c, ih]
end My

namespace MyN
open PySem PySem.Spec PyProof.Rows
section
variable {prog : Program} {w : World} {A : Around} {E : Value → Shared → Prop} {s : Shared} {K : PySem.W.Frag} {x C L f : Addr} {h₀ : Heap} {m : Str → Option Value} {ox : Obj} {od : Option Obj} {b tb : Value}
open Builtin in
theorem ne_body {Q : Fin → Shared → Prop} (hu : A.units < cLine) (X : K.In s.heap) (I : PySem.W.InstAt s.heap x ox C od) (hs : PySem.W.findIn K (.ref C) "__eq__" = some (some (.ref f))) (hf : PySem.W.isFn K (.ref f) = true)
    (h : wpAny (model prog w) A (call (.ref f) [.ref x, b]) (fun v s' => ∃ r, v = .bool r ∧ Q (.done (.ret (.bool (!r)))) s') E s) : wpAny (model prog w) A (Builtin.«object.__ne__» ⟨[.ref x, b], []⟩) Q E s := by
  unfold Builtin.«object.__ne__»
  repeat (first
    | with_reducible refine wpAny_cRoomFor hu ?_
    | (refine wpAny_bind (m := callSpecialIfBound? (.ref x) (Str.ofString "__eq__") [b])
        (PySem.W.ifBound_K X I hs hf (wpAny_mono h (fun r s' hr => by
          obtain ⟨b, rfl, hq⟩ := hr
          repeat (first | exact hq | exact wpAny_pure hq | exact wpAny_truthy_bool hq | (refine wpAny_bind (m := truthy (.bool _)) (wpAny_truthy_bool ?_)) | wp_step)) fun _ _ e => e)))
    | wp_step)
theorem call_objNe {Q : Value → Shared → Prop} (hu : A.in1.units < cLine) (X : K.In s.heap) (I : PySem.W.InstAt s.heap x ox C od) (hm : PySem.W.mroIn K C (.type "object") = some true) (hs : PySem.W.findIn K (.ref C) "__eq__" = some (some (.ref f))) (hf : PySem.W.isFn K (.ref f) = true)
    (h : wpAny (model prog w) A.in1 (call (.ref f) [.ref x, b]) (fun v s' => ∃ r, v = .bool r ∧ Q (.bool (!r)) s') E s) :
    wpAny (model prog w) A (call (.builtin "object.__ne__") [.ref x, b]) Q E s :=
  wpAny_call (codeAny_call_builtin F.cmp_object.ne.plain F.cmpEntry_ne (PySem.W.check_slot F.cmpKind_ne F.cmpSplit_ne (I.type.andThen (PySem.W.looks_mroIn X hm)) (F.cmpArgs_ne _ _) (ne_body hu X I hs hf h)))
theorem ifBound_objNe {M : Model} {args : List Value} {Q : Option Value → Shared → Prop} (X : K.In s.heap) (I : PySem.W.InstAt s.heap x ox C od) (hs : PySem.W.findIn K (.ref C) "__ne__" = some (some (.builtin "object.__ne__")))
    (h : wpAny M A (call (.builtin "object.__ne__") (.ref x :: args)) (fun v => Q (some v)) E s) : wpAny M A (callSpecialIfBound? (.ref x) "__ne__" args) Q E s := by
  simp only [callSpecialIfBound?, bindSpecialIfBound?]
  refine wpAny_holding (wpAny_bind (wpAny_bind (wpAny_bind (I.type.here ((PySem.W.looks_findIn X hs).here ?_)))))
  refine wpAny_bind (wpAny_askSetting (wpAny_ite ?_))
  have fin : wpAny M A (call (.builtin "object.__ne__") ([.ref x] ++ args) >>= fun v => pure (some v)) Q E s := wpAny_bind (wpAny_mono h (fun v s' h' => wpAny_pure h') fun _ _ h' => h')
  split
  · exact wpAny_bind (wpAny_of_eq (F.cmp_object.ne.bind _) (wpAny_pure (by exact fin)))
  · exact wpAny_tryCatch (wpAny_bind (wpAny_of_eq (F.cmp_object.ne.bind _) (wpAny_pure (by exact fin))))
theorem ne_K {Q : Value → Shared → Prop} (hu : A.units < cLine) (hu1 : A.in1.units < cLine) (F : Fr h₀ L s.heap m) (X₀ : K.In h₀) (I : PySem.W.InstAt s.heap x ox C od) (hb : PySem.W.Looks (model prog w) s.heap (typeOf b) tb) (hn : PySem.W.notFirst K C tb = true)
    (hm : PySem.W.mroIn K C (.type "object") = some true) (hne : PySem.W.findIn K (.ref C) "__ne__" = some (some (.builtin "object.__ne__"))) (hs : PySem.W.findIn K (.ref C) "__eq__" = some (some (.ref f))) (hf : PySem.W.isFn K (.ref f) = true)
    (h : wpAny (model prog w) A.in1 (call (.ref f) [.ref x, b]) (fun v s' => ∃ r, v = .bool r ∧ Q (.bool (!r)) s') E s) : wpAny (model prog w) A (richCompare .NotEq (.ref x) b) Q E s := by
  have X := X₀.keeps F.keep
  have one : wpAny (model prog w) A (tryCompare (.ref x) "__ne__" b) (fun r s' => ∃ v, r = some v ∧ Q v s') E s := by
    unfold tryCompare
    refine wpAny_bind (ifBound_objNe X I hne (call_objNe hu1 X I hm hs hf (wpAny_mono h (fun v s' hv => ?_) fun _ _ e => e)))
    obtain ⟨r, rfl, q⟩ := hv
    exact ⟨r, rfl, wpAny_pure ⟨_, rfl, q⟩⟩
  unfold richCompare
  simp only [oneThing_ref]
  refine wpAny_holding (wpAny_bind (wpAny_cRoomFor hu ?_))
  rw [cmpInfo_NotEq]
  dsimp only
  refine wpAny_bind (I.type.here (wpAny_bind (hb.here ?_)))
  split
  · rename_i q
    have e : PySem.W.subIn K tb (.ref C) = some false := by
      rcases Bool.or_eq_true_iff.mp hn with e | e
      · rw [beq_iff_eq.mp e] at q; simp at q
      · exact beq_iff_eq.mp e
    refine wpAny_bind ((PySem.W.looks_subIn X e).here ?_)
    simp only [Bool.false_eq_true, if_false]
    refine wpAny_bind (wpAny_mono one (fun r s' z => ?_) fun _ _ e => e)
    obtain ⟨v, rfl, hq⟩ := z
    exact wpAny_pure hq
  · refine wpAny_bind (wpAny_pure ?_)
    simp only [Bool.false_eq_true, if_false]
    refine wpAny_bind (wpAny_mono one (fun r s' z => ?_) fun _ _ e => e)
    obtain ⟨v, rfl, hq⟩ := z
    exact wpAny_pure hq
end
end MyN
namespace My
open PySem PySem.Spec PyProof.Rows L2
section
variable {X : Cx} {n : Nat} {C f : Addr} {fd : FuncData} {ps : List Str} {sp : Sp} {CX : CXT} {E : XK}
/-- the own == is a def that keeps a promise -/
structure EqOwn (X : Cx) (CX : CXT) (n : Nat) (C : Addr) (sp : Sp) (E : XK) : Prop where
  ex : ∃ f fd ps, FnOk X.prog X.w X.K X.mg X.base CX n f fd ps sp ∧ PySem.W.findIn X.K (.ref C) "__eq__" = some (some (.ref f)) ∧ PySem.W.isFn X.K (.ref f) = true ∧ Binds X.K fd ps []
  ne : PySem.W.findIn X.K (.ref C) "__ne__" = some (some (.builtin "object.__ne__"))
  mro : PySem.W.mroIn X.K C (.type "object") = some true
  hx : Passes CX X E
theorem own_run {A : Around} {Q : VK} {pins : List (Addr × Obj)} {σ : L2.St} {H : Hp} {s : Shared} {us : List Value} {vs : List V} (F : FnOk X.prog X.w X.K X.mg X.base CX n f fd ps sp) (hb : Binds X.K fd ps []) (hx : Passes CX X E) (hr : Room n A)
    (e0 : Env0 X.prog X.w X.K X.mg X.base A X.stack s H) (I : Inv X pins σ H s) (r : Vals vs us) (hsp : sp vs H Q E) : wpAny (model X.prog X.w) A (call (.ref f) us) (EP X pins σ Q) X.xe s := by
  have hl := F.len _ _ _ _ hsp
  refine wpAny_call (codeAny_mono (F.run A X.stack s H ⟨us, []⟩ us vs _ E hr e0 (by
    have := hb s us I.kIn (by rw [List.append_nil, ← r.length, hl])
    simpa using this) r hsp) fun r s' hq => ?_)
  cases r with
  | error e => exact hx pins σ H s e s' I hq
  | ok fl =>
    cases fl with
    | ret w => exact I.after hq
    | next => exact False.elim hq
    | brk => exact False.elim hq
    | cont => exact False.elim hq
/-- x == y, x of a class with its own ==, y anything of a known type -/
def rEqOwn (K : PySem.W.Frag) (C : Addr) (sp : Sp) (E : XK) : R2 := fun x y H Q => ∃ a dx fs t, x = .ref a ∧ H a = some (.ins C dx fs) ∧ TyX K H y t ∧ PySem.W.notFirst K C t = true ∧ sp [x, y] H Q E
def rNeOwn (K : PySem.W.Frag) (C : Addr) (sp : Sp) (E : XK) : R2 := fun x y H Q => ∃ a dx fs t, x = .ref a ∧ H a = some (.ins C dx fs) ∧ TyX K H y t ∧ PySem.W.notFirst K C t = true ∧ sp [x, y] H (fun v H' => ∃ r, v = .bl r ∧ Q (.bl (!r)) H') E
theorem op_eqOwn (O : EqOwn X CX n C sp E) (hr : Room n X.A) : OpR X (compareOp .Eq) (rEqOwn X.K C sp E) := by
  intro pins s σ H x y v u Q I rx ry h
  obtain ⟨f, fd, ps, F, hs, hf, hb⟩ := O.ex
  obtain ⟨a, dx, fs, t, rfl, ha, ty, hn, q⟩ := h
  cases (show v = Value.ref a from rx)
  obtain ⟨mA, J, _⟩ := ins_get I.hok ha
  obtain ⟨od, J, _⟩ := J.look
  obtain ⟨P, Z, p, _⟩ := kit_of I ry ty
  obtain ⟨m, hF⟩ := I.fr
  refine PySem.W.cmp_ofEq (PySem.W.cmp_K (op := .Eq) (tb := t) hr.units0 hF I.ok.mod.kin J (Z.ty _ _ I.kIn p) hn hs hf ?_)
  refine wpAny_mono (own_run (vs := [.ref a, y]) F hb O.hx hr I.env0 I (.cons rfl (.cons ry .nil)) q) (fun w s' z => ?_) fun _ _ x => x
  obtain ⟨z', H', I', rz, qz⟩ := z
  exact SlX.cmpback rz ⟨z', H', I', rz, qz⟩
theorem op_neOwn (O : EqOwn X CX n C sp E) (hr : Room (n + 1) X.A) : OpR X (compareOp .NotEq) (rNeOwn X.K C sp E) := by
  intro pins s σ H x y v u Q I rx ry h
  obtain ⟨f, fd, ps, F, hs, hf, hb⟩ := O.ex
  obtain ⟨a, dx, fs, t, rfl, ha, ty, hn, q⟩ := h
  cases (show v = Value.ref a from rx)
  obtain ⟨mA, J, _⟩ := ins_get I.hok ha
  obtain ⟨od, J, _⟩ := J.look
  obtain ⟨P, Z, p, _⟩ := kit_of I ry ty
  obtain ⟨m, hF⟩ := I.fr
  refine PySem.W.cmp_ofNotEq (MyN.ne_K (tb := t) hr.units0 hr.in1.units0 hF I.ok.mod.kin J (Z.ty _ _ I.kIn p) hn O.mro O.ne hs hf ?_)
  refine wpAny_mono (own_run (vs := [.ref a, y]) F hb O.hx hr.in1 I.env0.in1 I (.cons rfl (.cons ry .nil)) q) (fun w s' z => ?_) fun _ _ x => x
  obtain ⟨z', H', I', rz, r, rfl, qz⟩ := z
  cases (show w = Value.bool r from rz)
  exact ⟨r, rfl, .bl (!r), H', I', rfl, qz⟩
/-- str(x), x of a class with its own __str__ -/
def rStrOwn (C : Addr) (sp : Sp) (E : XK) : List V → Hp → VK → Prop := fun xs H Q => ∃ a dx fs, xs = [.ref a] ∧ H a = some (.ins C dx fs) ∧ sp [.ref a] H (fun v H' => ∃ y, v = .str y ∧ Q v H') E
structure StrOwn (X : Cx) (CX : CXT) (n : Nat) (C : Addr) (sp : Sp) (E : XK) : Prop where
  ex : ∃ f fd ps, FnOk X.prog X.w X.K X.mg X.base CX n f fd ps sp ∧ PySem.W.findIn X.K (.ref C) "__str__" = some (some (.ref f)) ∧ PySem.W.isFn X.K (.ref f) = true ∧ Binds X.K fd ps []
  hx : Passes CX X E
theorem call_strOwn (O : StrOwn X CX n C sp E) (hr : Room (n + 2) X.A) : CallR X (.type "str") (rStrOwn C sp E) := by
  intro pins s σ H xs us Q I r h
  obtain ⟨f, fd, ps, F, hs, hf, hb⟩ := O.ex
  obtain ⟨a, dx, fs, rfl, ha, q⟩ := h
  obtain ⟨u, rfl, ru⟩ := r.one
  cases (show u = Value.ref a from ru)
  obtain ⟨mA, J, _⟩ := ins_get I.hok ha
  obtain ⟨od, J, _⟩ := J.look
  have hr2 : Room n X.A.in1.in1 := (show Room (n + 1) X.A.in1 from Room.in1 hr).in1
  refine PySem.W.kso_call hr2.units0 I.kIn J hs hf (wpAny_mono (own_run (vs := [.ref a]) F hb O.hx hr2 I.env0.in1.in1 I (.cons rfl .nil) q) (fun w s' z => ?_) fun _ _ x => x)
  obtain ⟨z', H', I', rz, y, rfl, qz⟩ := z
  obtain ⟨t, e⟩ := (show ∃ t, w = Value.str y t from rz)
  cases e
  exact ⟨.str y, H', I', ⟨t, rfl⟩, qz⟩
end
end My

namespace My
open PySem PySem.Spec PyProof.Rows L2
/-! ## list.count of a text; a staticmethod called on its class; defs that raise -/
section
variable {X : Cx}
theorem countU {z : Str} : ∀ {us : List Value} {ws : List Str}, Vals (ws.map V.str) us → us.countP (eqU (.str z)) = ws.countP (fun y => decide (y = z))
  | _, [], .nil => rfl
  | _, w :: ws, .cons r h => by
    have ih := countU (z := z) h
    rw [List.countP_cons, List.countP_cons, ih, eqU_of r rfl]
    have : eqV (.str w) (.str z) = decide (w = z) := by
      show (w == z) = decide (w = z)
      by_cases e : w = z
      · rw [e, decide_eq_true rfl]; exact beq_self_eq_true z
      · rw [decide_eq_false e]; exact beq_eq_false_iff_ne.mpr e
    rw [this]
theorem flat_strs : ∀ ws : List Str, (ws.map V.str).all flatV = true
  | [] => rfl
  | w :: ws => by
    rw [List.map_cons, List.all_cons, flat_strs ws]
    rfl
def rCntS (K : PySem.W.Frag) : V → List V → Hp → VK → Prop := fun x xs H Q => ∃ (p : Addr) (ws : List Str) (z : Str), x = .ref p ∧ xs = [.str z] ∧ SqL K H p (ws.map V.str) ∧ Q (.int (ws.countP fun y => decide (y = z) : Nat)) H
theorem mt_scount : MtR X "list.count" (rCntS X.K) := by
  intro pins s σ H x xs v us Q I rx rxs h
  obtain ⟨p, ns, k, rfl, rfl, hs, q⟩ := h
  cases rx
  obtain ⟨u, rfl, ru⟩ := rxs.one
  obtain ⟨its, rv, ⟨⟨cls, dd, data, sl⟩, n, ho, hc, hdn, hd⟩, hlen⟩ := I.list hs
  simp only at hc hd
  subst hc hd
  refine call_meets PySem.F.slot_list_count ⟨_, ho, rfl⟩ PySem.F.entry_list_count (PySem.F.args_list_count_2 _ _)
    (SeqAt.list_countAt p its.toArray n dd sl u (eqU (.str k))) ⟨ho, fun y hy => mem_eqAt ru rfl rv (flat_strs ns) y (by simpa using hy), ?_⟩
  have ec : its.toArray.toList.countP (eqU (.str k)) = ns.countP (fun y => decide (y = k)) := countU rv
  refine ⟨.int (ns.countP fun y => decide (y = k) : Nat), H, I.tok _, ⟨s.toks, ?_⟩, q⟩
  show Value.int ((its.toArray.toList.countP (eqU (.str k)) : Nat) : Int) s.toks = Value.int ((ns.countP fun y => decide (y = k) : Nat) : Int) s.toks
  rw [ec]
end
/-- m is a staticmethod of the class C: its record at p, its def at f -/
structure SMet (K : PySem.W.Frag) (C : Addr) (m : Str) (p f : Addr) : Prop where
  rd : PySem.W.readsIn K C (.type "type") = true
  ga : PySem.W.specialIn K (.ref C) "__getattribute__" = some (some (.builtin "type.__getattribute__"))
  at_ : PySem.W.findCls K (.ref C) (.type "type") m = some (.get (.builtin "staticmethod.__get__") (.ref p) .none (.ref C))
  rc : ∃ rest, PySem.W.recIn K p "staticmethod" = some (.ref f :: rest)
  kp : PySem.W.keepIn K (.ref f) = true
def tSMeth (C : Addr) (sp : Sp) (E : L2.St → XK) (ta : TE) (t : TA) : TE := fun σ H Q => ta σ H fun x H1 => x = .ref C ∧ t σ H1 fun vs H2 => sp vs H2 Q (E σ)
section
variable {X : Cx} {CX : CXT} {k : Nat} {f C p : Addr} {fd : FuncData} {ps : List Str} {sp : Sp} {E : L2.St → XK} {x m : Str} {pos apos : Pos} {e o : Expr} {es : List Expr} {ta : TE} {t : TA} {pl : Sem Bool}
theorem pe_smeth (he : PE X o ta) (c : SMet X.K C m p f) (F : FnOk X.prog X.w X.K X.mg X.base CX k f fd ps sp) (hr : Room k X.A) (hb : Binds X.K fd ps []) (hx : ∀ σ, PassesAt CX X σ (E σ)) (ha : PA X (e :: es) t)
    (hst : starEach (e :: es) X.env = (false, eval e X.env) :: starEach es X.env := by rfl) (hpl : (backTo pos (starEach es X.env)).any (·.1) = false := by rfl)
    (ht : eval (.Call (.Attribute o m apos) (e :: es) [] pos) X.env = (do
      let ov ← eval o X.env
      standAt apos.atName
      let (f, first) ← holding [ov] (getMethod ov m pl)
      callWith pos f first (backTo pos (starEach (e :: es) X.env)) (backToKw pos (keywordEach [] X.env))) := by rfl) :
    PE X (.Call (.Attribute o m apos) (e :: es) [] pos) (tSMeth C sp E ta t) := by
  refine ⟨fun pins s σ H Q I h => ?_⟩
  refine PySem.W.methodCall_KW (pl := pl) (thn (he.run pins s σ H _ I h) fun u s1 ⟨x, H1, I1, rx, ex, q⟩ => ?_) ht
  subst ex
  obtain rfl : u = Value.ref C := rx
  obtain ⟨rest, hp⟩ := c.rc
  refine PySem.W.method_cls I1.kIn c.ga (PySem.W.cls_bind I1.kIn c.rd c.at_ (wpAny_call (PySem.W.sm_get (s := { s1 with toks := s1.toks + 1 }) I1.kIn hp (PySem.W.handed_on rfl ?_))))
  have I2 := I1.tok (s1.toks + 1)
  refine PySem.W.callWith_K (h₀ := X.base) I2.ok.mod.kin c.kp (thn (ha.run pos pins _ σ H1 _ I2 q) fun us s3 ⟨vs, H2, I3, r, q2⟩ => ⟨I3.kIn, ?_⟩) hst hpl
  exact run_fnS F hr hb (hx σ) I3 r q2
end
/-! ### defs that raise -/
section
variable {P : Program} {w : World} {K : PySem.W.Frag} {mg : Str → Option Value} {base : Heap}
/-- the module's name x is a def that keeps a promise, and lets out what it tells -/
structure OwnX (P : Program) (w : World) (K : PySem.W.Frag) (mg : Str → Option Value) (base : Heap) (x : Str) (k : Nat) (ps : List Str) (sp : Sp) : Prop where
  ex : ∃ f fd, FnOk P w K mg base (L2.CX P w) k f fd ps sp ∧ mg x = some (.ref f) ∧ PySem.W.keepIn K (.ref f) = true ∧ Binds K fd ps []
theorem Df.ownX {x : Str} {st : Stmt} {ps N : List Str} {k : Nat} {sp : Sp} (D : Df K mg x st ps) (S : FnScope N ps (defScope st)) (len : ∀ vs H Q E, sp vs H Q E → vs.length = ps.length)
    (hbody : ∀ (f : Addr) (cdv : Value) (A : Around) (outer : List Env) (s : Shared) (H : Hp) (vs : List V) (Q : VK) (E : XK), Room k (A.deeper (envOfC x (defScope st) s.heap.objs.size f cdv)) → sp vs H Q E →
      ∃ t, PSs (cxOf (L2.CX P w) P w K mg base N x (defScope st) f cdv A outer s H E) (defBody st) t ∧ t { nx := fun _ H' => Q .non H', rt := Q } (start N vs) H) : OwnX P w K mg base x (k + 1) ps sp := by
  obtain ⟨f, fd, F, m, b⟩ := D.ex
  exact ⟨f, fd, F.okX S len (hbody f), m, F.kp, b⟩
end
section
variable {X : Cx} {x : Str} {p pos : Pos} {e : Expr} {es : List Expr} {t : TA} {k : Nat} {ps : List Str} {sp : Sp} {W : WX}
theorem pe_ownX (O : OwnX X.prog X.w X.K X.mg X.base x k ps sp) (hr : Room k X.A) (tk : Takes X W) (ha : PA X (e :: es) t) (hg : Gl X x := by exact rfl) (hdb : (x == ("__debug__" : Str)) = false := by decide)
    (he : starEach (e :: es) X.env = (false, eval e X.env) :: starEach es X.env := by rfl) (hpl : (backTo pos (starEach es X.env)).any (·.1) = false := by rfl) : PE X (.Call (.Name x p) (e :: es) [] pos) (tCallS sp (WE W) t) := by
  obtain ⟨f, fd, G, hm, hk, hb⟩ := O.ex
  exact pe_callS G hr hg hm hk hb (fun σ => passAt tk σ) ha hdb he hpl
end
end My

/-! several except clauses, each with a name for the error or without one -/
namespace My
open PySem PySem.Spec PyProof.Rows L2
/-- behind a suite whose error has a name: slot i is emptied -/
def endsAs (D : Ends) (i : Nat) : Ends := { nx := fun σ' H' => D.nx (σ'.set i none) H', rt := D.rt, bk := fun σ' H' => D.bk (σ'.set i none) H', ct := fun σ' H' => D.ct (σ'.set i none) H' }
/-- a clause: its class, the slot of its name, its suite -/
structure Clause where
  cls : Value
  slot : Option Nat
  ts : Addr → Value → Option Addr → TS
def Clause.wish (k : Clause) (D : Ends) (a : Addr) (cls : Value) (d : Option Addr) (σ : L2.St) (H : Hp) : Prop := match k.slot with
  | none => k.ts a cls d D σ H
  | some i => k.ts a cls d (endsAs D i) (σ.set i (some (.ref a))) H
def wCls (K : PySem.W.Frag) (Wout : WX) (D : Ends) : List Clause → WX
  | [] => Wout
  | k :: r => fun cls d σ H => ∃ b, PySem.W.exmOne K cls k.cls = some b ∧ (b = true → ∀ a, H a = none → k.wish D a cls d σ H) ∧ (b = false → wCls K Wout D r cls d σ H)
/-- the handler is the clause -/
structure IsClause (X : Cx) (h : ExceptHandler) (k : Clause) : Prop where
  ex : ∃ (x : Str) (np pos' : Pos) (b₀ : Stmt) (suite : List Stmt) (on : Option Str), h = .ExceptHandler (some (.Name x np)) on (b₀ :: suite) pos' ∧ Names X x k.cls ∧
    (∀ (a : Addr) (oe : Obj) (cls : Value) (d : Option Addr) (pn : List (Addr × Obj)), Zc cls d oe → (∃ vs, oe.data = .fields vs) → PSs (X.suite a ((a, oe) :: pn)) (b₀ :: suite) (k.ts a cls d)) ∧
    ((on = none ∧ k.slot = none) ∨ ∃ n i, on = some n ∧ k.slot = some i ∧ X.N[i]? = some n ∧ X.env.kindOf n = some .local)
inductive AreClauses (X : Cx) : List ExceptHandler → List Clause → Prop
  | nil : AreClauses X [] []
  | cons {h : ExceptHandler} {k : Clause} {hs : List ExceptHandler} {ks : List Clause} : IsClause X h k → AreClauses X hs ks → AreClauses X (h :: hs) (k :: ks)
section
variable {X : Cx} {body : List Stmt} {h₀ : ExceptHandler} {hds : List ExceptHandler} {ks : List Clause} {pos : Pos} {tb : WX → TS} {Wout : WX}
theorem ps_try_cls (hst : X.stack = X.env :: X.outer) (hfr : X.env.frame = some X.env.locals) (hN : X.N.Nodup) (tk : Takes X Wout)
    (hb : ∀ (W : WX) (pn : List (Addr × Obj)) (xe : Value → Shared → Prop), Takes (X.tr pn xe) W → PassesOwn (model X.prog X.w) X.A X.env xe → PSs (X.tr pn xe) body (tb W))
    (hk : AreClauses X (h₀ :: hds) ks) : PS X (.Try body (h₀ :: hds) [] [] pos) (fun D σ H => tb (wCls X.K Wout D ks) D σ H) := by
  refine ⟨fun pins s σ H D I h => ?_⟩
  have ok := I.ok
  have frames : X.A.frames = some (X.env :: X.outer) := ok.frames.trans (congrArg some hst)
  let W := wCls X.K Wout D ks
  let xe := fun e s₁ => wpAny (model X.prog X.w) X.A (noteFrame e X.env) (fun _ s₂ => wpAny (model X.prog X.w) X.A (setFlight e none) (fun _ s₃ => wpAny (model X.prog X.w) X.A (handleBy e X.env (h₀ :: hds)) (SP X pins D) X.xe s₃) X.xe s₂) X.xe s₁
  refine wpAny_Try_except (wpAny_mono ((hb W (X.pn ++ pins) xe (fun u s' caught => ?_) PassesOwn.looking).run [] s σ H D (I.toTry _) h) (fun f s1 end_ => ?_) fun _ _ z => z)
  · obtain ⟨a, B, sI, _, σ', H', cls, d, rfl, Jt, nb, up, sky, na, os, ag, w⟩ := caught
    have J : Inv X pins σ' H' sI := Jt.ofTry ok
    show wpAny _ X.A (noteFrame (.ref a) X.env) _ _ _
    refine Sky.land Zc.steady frames hfr (hst ▸ sky) fun h3 fl3 up3 => ?_
    have J3 : Inv X pins σ' H' { s' with heap := h3 } := J.landed nb fl3.1 (up.trans up3) os ag
    obtain ⟨o3, v3, at3, zc3, data3⟩ := fl3.there
    have nfr : a ∉ frs (X.env :: X.outer) := fun hm => by
      obtain ⟨_, o', e', hnf⟩ := fl3.2.2.1.mem hm
      cases at3.symm.trans e'
      exact hnf _ data3
    have nL : a ≠ X.env.locals := fun z => nfr (List.mem_filterMap.mpr ⟨X.env, List.mem_cons_self, hfr.trans (congrArg some z.symm)⟩)
    have nF : a ∉ X.fs := fun hm => let ⟨e, he, q⟩ := List.mem_filterMap.mp hm
      nfr (List.mem_filterMap.mpr ⟨e, List.mem_cons_of_mem _ he, q⟩)
    have S3 := J3.suite at3 data3 na nL nF
    have kind : PySem.W.Looks (model X.prog X.w) h3 (typeOf (.ref a)) cls := fun _ _ _ _ q z => wpAny_typeOf_ref (q _ _ at3) (by rw [zc3.1]; exact z)
    have go : ∀ {hs' : List ExceptHandler} {ks' : List Clause}, AreClauses X hs' ks' → wCls X.K Wout D ks' cls d σ' H' → wpAny (model X.prog X.w) X.A (handleBy (.ref a) X.env hs') (SP X pins D) X.xe { s' with heap := h3 } := by
      intro hs' ks' ac
      induction ac with
      | nil =>
        intro w
        refine wpAny_handleBy_nil ?_
        obtain ⟨_, _, _, oe, vs, T, oT, _, he, _, hd, h1, _⟩ := id fl3
        unfold PySem.passOn
        refine wpAny_bind (wpAny_field he hd h1 ?_)
        rw [if_neg (show ¬ ((Value.ref T == Value.none) = true) from by simp)]
        have onward : wpAny (model X.prog X.w) X.A (setFlight (.ref a) X.env.frame) (fun _ s4 => wpAny (model X.prog X.w) X.A (throw (.ref a) : Sem Flow) (SP X pins D) X.xe s4) X.xe { s' with heap := h3 } := by
          rw [hfr]
          exact HandSPX.setFlight_upZ fl3 fun h4 hh4 up4 => wpAny_throw (tk _ _ ⟨a, B, sI, pins, σ', H', cls, d, rfl, J, nb, (up.trans up3).trans up4, .inr (.inr (hst ▸ hh4)), na, os, ag, w⟩)
        first
          | exact wpAny_bind (wpAny_pure (wpAny_bind onward))
          | exact wpAny_bind onward
      | @cons h k hs2 ks2 isC _ ih =>
        rintro ⟨b, known, yes, no⟩
        obtain ⟨x, np, pos', b₀, suite, on, rfl, nam, suiteOk, nameOk⟩ := isC.ex
        refine wpAny_handleBy_cons (codeAny_handlers_test ?_) (by intro q; cases q)
        have seen := PySem.W.exm_one (M := model X.prog X.w) J3.kIn kind known
        have test : ∀ {Q E : Value → Shared → Prop}, Q k.cls { s' with heap := h3 } → wpAny (model X.prog X.w) (X.A.mark (some (.ref a))) (eval (.Name x np) X.env) Q E { s' with heap := h3 } := fun {Q E} q => by
          obtain ⟨g, dbg, m | ⟨m, v, n⟩⟩ := nam
          · exact ld_glob (X := X.suite a ((a, o3) :: (X.pn ++ pins))) S3 g m q dbg
          · exact ld_blt (X := X.suite a ((a, o3) :: (X.pn ++ pins))) S3 g m v q n dbg
        refine test (seen.here ?_)
        cases b with
        | false => exact ih (no rfl)
        | true =>
          have wish := yes rfl a na
          rcases nameOk with ⟨rfl, sl⟩ | ⟨n, i, rfl, sl, hi, loc⟩
          · unfold Clause.wish at wish
            rw [sl] at wish
            refine codeAny_handlers_suite (HandSPX.lands_againZ fl3 fun h4 fl4 up4 => ?_)
            have J4 : Inv X pins σ' H' { s' with heap := h4 } := J.landed nb fl4.1 ((up.trans up3).trans up4) os ag
            obtain ⟨o4, _, at4, zc4, data4⟩ := fl4.there
            refine wpAny_mono ((suiteOk a o4 cls d (X.pn ++ pins) zc4 ⟨_, data4⟩).run [] _ _ H' _ (J4.suite at4 data4 na nL nF) wish) (fun f s6 e6 => ?_) (fun _ _ z => False.elim z)
            cases f with
            | ret u => exact let ⟨v6, σ6, H6, S6, r6, q6⟩ := e6; ⟨v6, σ6, H6, S6.unsuite ok, r6, q6⟩
            | next => exact let ⟨σ6, H6, S6, q6⟩ := e6; ⟨σ6, H6, S6.unsuite ok, q6⟩
            | brk => exact let ⟨σ6, H6, S6, q6⟩ := e6; ⟨σ6, H6, S6.unsuite ok, q6⟩
            | cont => exact let ⟨σ6, H6, S6, q6⟩ := e6; ⟨σ6, H6, S6.unsuite ok, q6⟩
          · unfold Clause.wish at wish
            rw [sl] at wish
            refine codeAny_handlers_suite_as (HandSPX.lands_againZ fl3 fun h4 fl4 up4 => ?_)
            have J4 : Inv X pins σ' H' { s' with heap := h4 } := J.landed nb fl4.1 ((up.trans up3).trans up4) os ag
            obtain ⟨o4, _, at4, zc4, data4⟩ := fl4.there
            refine store_ok (X := X.suite a ((a, o4) :: (X.pn ++ pins))) (v := .ref a) (J4.suite at4 data4 na nL nF) hN hi (.inl loc) rfl (fun s5 S5 => ?_) (.inr loc)
            refine wpAny_mono ((suiteOk a o4 cls d (X.pn ++ pins) zc4 ⟨_, data4⟩).run [] s5 _ H' _ S5 wish) (fun f s6 e6 => ?_) (fun _ _ z => False.elim z)
            have gone : ∀ {σ6 : L2.St} {H6 : Hp} {Q : Shared → Prop}, Inv (X.suite a ((a, o4) :: (X.pn ++ pins))) [] σ6 H6 s6 → (∀ s7, Inv X pins (σ6.set i none) H6 s7 → Q s7) →
                wpAny (model X.prog X.w) X.A (do bindName X.env n .none; unbindBehindTheSuite X.env n pos') (fun _ s7 => Q s7) X.xe s6 := fun S6 q => gone_ok (S6.unsuite ok) hN hi loc q
            cases f with
            | ret u => exact let ⟨_, _, _, S6, r6, q6⟩ := e6; gone S6 fun s7 J7 => ⟨_, _, _, J7, r6, q6⟩
            | next => exact let ⟨_, _, S6, q6⟩ := e6; gone S6 fun s7 J7 => ⟨_, _, J7, q6⟩
            | brk => exact let ⟨_, _, S6, q6⟩ := e6; gone S6 fun s7 J7 => ⟨_, _, J7, q6⟩
            | cont => exact let ⟨_, _, S6, q6⟩ := e6; gone S6 fun s7 J7 => ⟨_, _, J7, q6⟩
    exact go hk w
  · cases f with
    | next => exact let ⟨σ', H', J', q⟩ := end_; wpAny_execs_nil ⟨σ', H', J'.ofTry ok, q⟩
    | brk => exact let ⟨σ', H', J', q⟩ := end_; ⟨σ', H', J'.ofTry ok, q⟩
    | cont => exact let ⟨σ', H', J', q⟩ := end_; ⟨σ', H', J'.ofTry ok, q⟩
    | ret u => exact let ⟨v, σ', H', J', r, q⟩ := end_; ⟨v, σ', H', J'.ofTry ok, r, q⟩
end
end My

namespace My
open PySem PySem.Spec PyProof.Rows L2
local macro_rules | `(tactic| walk_at "side") => `(tactic| first | (dsimp only; omega) | exact ⟨by omega, by omega⟩ | exact Or.inl ⟨by omega, by omega⟩ | exact Or.inr ⟨by omega, by omega⟩ | decide)
local macro_rules | `(tactic| walk_at "sq") => `(tactic| first | assumption | exact SqL.of (by assumption) | exact SqT.of (by assumption) | (refine L2.Same.seq (by assumption) ?_; walk_at "sq") | (refine L2.Same.seqT (by assumption) ?_; walk_at "sq") | exact Or.inl (by walk_at "sq") | exact Or.inr (by walk_at "sq"))
local macro_rules | `(tactic| walk_at "1") => `(tactic| first
  | refine ⟨_, rfl, iteT ?_⟩
  | refine ⟨_, rfl, iteF ?_⟩
  | refine ⟨_, rfl, ?_⟩
  | refine ⟨_, _, rfl, rfl, (by walk_at "side"), ?_⟩
  | refine ⟨_, _, rfl, rfl, ?_⟩
  | refine ⟨_, _, _, _, true, rfl, .ty _, .base (.int _), kit_ty (a := "int") (by decide +kernel), ?_⟩
  | refine ⟨_, _, _, _, false, rfl, .ty _, .base (.int _), kit_ty (a := "int") (by decide +kernel), ?_⟩
  | refine ⟨_, _, rfl, (by walk_at "sq"), ?_⟩
  | refine ⟨_, _, _, _, rfl, rfl, (by walk_at "sq"), (by first | rfl | assumption), ?_⟩
  | refine Or.inl ⟨_, _, _, _, rfl, rfl, (by walk_at "sq"), (by first | rfl | assumption), ?_⟩
  | refine Or.inr (Or.inl ⟨_, _, _, _, rfl, rfl, (by walk_at "sq"), (by first | rfl | assumption), ?_⟩)
  | refine ⟨_, _, rfl, Or.inl ⟨(by walk_at "sq"), ?_⟩⟩
  | refine ⟨rfl, ?_⟩
  | refine iteT ?_
  | refine iteF ?_
  | refine ⟨_, _, _, _, _, rfl, (by assumption), (by assumption), (by assumption), (by assumption), ?_⟩
  | refine ⟨_, _, _, rfl, (by assumption), rfl, ?_⟩
  | refine Or.inl ⟨_, rfl, ?_⟩
  | refine Or.inr ⟨_, rfl, ?_⟩
  | refine ⟨_, _, rfl, (by walk_at "side"), ?_⟩
  | refine ⟨_, _, rfl, ?_⟩)
local macro_rules | `(tactic| walk_at "fld") => `(tactic| skip)
local macro_rules | `(tactic| walk_at "s") => `(tactic| repeat walk_at "1")
local macro_rules | `(tactic| walk_at "size") => `(tactic| first | exact Nat.le_of_ble_eq_true rfl | (simp only [List.length_map, List.length_append, List.length_cons, List.length_nil]; omega))
local macro_rules | `(tactic| walk_at "new") => `(tactic| (first | refine ⟨(by walk_at "size"), fun p hp => ?_⟩ | refine fun p hp => ?_); (generalize hq : upd _ p _ = H1); (obtain ⟨s, e⟩ := new_facts hp hq); clear hq)

def topS (i : Nat) : Stmt := PySem.Challenge.pw_waitworks_k04_texts_of_rows.main.body.getD i (.Pass ⟨0, 0, 0, 0⟩)
/-- what of the built-in names is still built-in -/
structure Txt (mg : Str → Option Value) : Prop where
  divmod : mg "divmod" = none
  max : mg "max" = none
  min : mg "min" = none
  str : mg "str" = none
  zip : mg "zip" = none
  all : mg "all" = none
  int : mg "int" = none
  len : mg "len" = none
  abs : mg "abs" = none
  bool : mg "bool" = none
  list : mg "list" = none
  tuple : mg "tuple" = none
  range : mg "range" = none
  isinstance : mg "isinstance" = none
/-- a time or nothing as a value -/
def ov : Option Int → V
  | none => .non
  | some i => .int i
theorem ov_non (t : Option Int) : decide (ov t = .non) = t.isNone := by cases t <;> rfl
def SqH (H : Hp) (a : Addr) (xs : List V) : Prop := H a = some (.lst xs) ∨ H a = some (.tup xs)
theorem SqH.sqs {K : PySem.W.Frag} {H : Hp} {a : Addr} {xs : List V} (h : SqH H a xs) : SqS K H a xs := h.imp SqL.of SqT.of
theorem _root_.L2.Same.sqh {H H' : Hp} {a : Addr} {xs : List V} (e : Same H H') (h : SqH H a xs) : SqH H' a xs := h.imp (e _ _) (e _ _)
/-- what a thing in a list is: a time, nothing, or neither (none) -/
abbrev El := Option (Option Int)
inductive ElAt (H : Hp) : V → El → Prop where
  | non : ElAt H .non (some none)
  | int (i : Int) : ElAt H (.int i) (some (some i))
  | bl (b : Bool) : ElAt H (.bl b) none
  | str (s : Str) : ElAt H (.str s) none
  | seq {a : Addr} {xs : List V} (h : SqH H a xs) : ElAt H (.ref a) none
inductive Els (H : Hp) : List V → List El → Prop where
  | nil : Els H [] []
  | cons {v : V} {vs : List V} {e : El} {es : List El} : ElAt H v e → Els H vs es → Els H (v :: vs) (e :: es)
/-- what an argument is: things in a row, or no such (none) -/
abbrev Arg := Option (List El)
inductive ArgAt (C : Addr) (H : Hp) : V → Arg → Prop where
  | non : ArgAt C H .non none
  | int (i : Int) : ArgAt C H (.int i) none
  | bl (b : Bool) : ArgAt C H (.bl b) none
  | str (s : Str) : ArgAt C H (.str s) none
  | obj {a dx : Addr} {fs : List (Str × V)} (h : H a = some (.ins C dx fs)) : ArgAt C H (.ref a) none
  | seq {a : Addr} {xs : List V} {es : List El} (h : SqH H a xs) (e : Els H xs es) : ArgAt C H (.ref a) (some es)
theorem ElAt.same {H H' : Hp} {v : V} {e : El} (h : ElAt H v e) (s : Same H H') : ElAt H' v e := by
  cases h with
  | non => exact .non
  | int i => exact .int i
  | bl b => exact .bl b
  | str x => exact .str x
  | seq h => exact .seq (s.sqh h)
theorem Els.same {H H' : Hp} {vs : List V} {es : List El} (h : Els H vs es) (s : Same H H') : Els H' vs es := by
  induction h with
  | nil => exact .nil
  | cons h _ ih => exact .cons (h.same s) ih
theorem ArgAt.same {C : Addr} {H H' : Hp} {v : V} {d : Arg} (h : ArgAt C H v d) (s : Same H H') : ArgAt C H' v d := by
  cases h with
  | non => exact .non
  | int i => exact .int i
  | bl b => exact .bl b
  | str x => exact .str x
  | obj h => exact .obj (s _ _ h)
  | seq h e => exact .seq (s.sqh h) (e.same s)
theorem Els.len {H : Hp} {vs : List V} {es : List El} (h : Els H vs es) : vs.length = es.length := by
  induction h with
  | nil => rfl
  | cons _ _ ih => simp [ih]
theorem Els.get {H : Hp} {vs : List V} {es : List El} (h : Els H vs es) : ∀ {i : Nat} {v : V}, vs[i]? = some v → ∃ e, es[i]? = some e ∧ ElAt H v e := by
  induction h with
  | nil => intro i v e; simp at e
  | cons h _ ih =>
    intro i v e
    cases i with
    | zero =>
      simp only [List.getElem?_cons_zero, Option.some.injEq] at e
      subst e
      exact ⟨_, rfl, h⟩
    | succ i => exact ih (by simpa using e)
/-- times and nothings as such things -/
theorem els_ov (H : Hp) : ∀ xs : List (Option Int), Els H (xs.map ov) (xs.map some)
  | [] => .nil
  | none :: r => .cons .non (els_ov H r)
  | some i :: r => .cons (.int i) (els_ov H r)
def isI : El → Bool
  | some (some _) => true
  | _ => false
def isN : El → Bool
  | some (some i) => decide (0 ≤ i)
  | _ => false
/-- what the class of rows must say, so that isinstance asks its objects rightly -/
structure RowIs (K : PySem.W.Frag) (C : Addr) : Prop where
  cl : Cls K C
  ha : PySem.W.findIn K (.ref C) "__class__" = some (some (.builtin "object.__class__"))
  hn : PySem.W.specialIn K (.builtin "object.__class__") "__get__" = some (some (.builtin "getset_descriptor.__get__"))
  ht : PySem.W.takesIn K (.builtin "object.__class__") = some true
  hm : PySem.W.mroIn K C (.type "object") = some true
  l : PySem.W.kitOne K (.ref C) (.type "list") = some false
  t : PySem.W.kitOne K (.ref C) (.type "tuple") = some false
section
variable {P : Program} {w : World} {K : PySem.W.Frag} {mg : Str → Option Value} {base : Heap}
/-! ### kinds -/
theorem rdI {H : Hp} {Q : VK} {x : V} (n m : String) (b : Bool) (ty : TyX K H x (.type n)) (h : kitB n m = some b) (q : Q (.bl b) H) : rIsi K [x, .ty m] H Q := rd_isi n b ty h q
abbrev s_is_integer : Stmt := topS 7
theorem sc_is_integer : FnScope ["value"] ["value"] (defScope s_is_integer) := ⟨rfl, rfl, rfl, by decide +kernel, rfl, by decide +kernel, by decide +kernel⟩
def spIsInt : Sp := fun vs H Q _ => ∃ (v : V) (e : El), vs = [v] ∧ ElAt H v e ∧ Q (.bl (isI e)) H
theorem ok_is_integer (D : Df K mg "is_integer" s_is_integer ["value"]) (T : Txt mg) : Own P w K mg base "is_integer" 1 ["value"] spIsInt := by
  refine D.own sc_is_integer (fun vs H Q E h => ?_) (fun f cdv A outer s H vs Q E hr h => ?_)
  · obtain ⟨v, e, rfl, _⟩ := h
    rfl
  · obtain ⟨v, e, rfl, hv, k⟩ := h
    refine ⟨_, (pss_one (ps_ret (pe_and (pe_callB call_isi (by rfl) T.isinstance (by decide +kernel) (pa_cons (pv 0) (pa_cons (pe_bltn (v := .ty "int") (by rfl) T.int (by decide +kernel) rfl) pa_nil))) (pe_one (pe_not (pe_callB call_isi (by rfl) T.isinstance (by decide +kernel) (pa_cons (pv 0) (pa_cons (pe_bltn (v := .ty "bool") (by rfl) T.bool (by decide +kernel) rfl) pa_nil)))))))), ?_⟩
    refine ⟨_, rfl, ?_⟩
    cases hv with
    | non =>
      refine ⟨_, _, _, _, false, rfl, .ty _, (.base .non), kit_ty (a := "NoneType") (b := "int") (by decide +kernel), ?_⟩
      walk_at "s"
      exact k
    | int i =>
      walk_at "s"
      exact k
    | bl b =>
      refine ⟨_, _, _, _, true, rfl, .ty _, (.base (.bl b)), kit_ty (a := "bool") (b := "int") (by decide +kernel), ?_⟩
      walk_at "s"
      refine ⟨_, _, _, _, true, rfl, .ty _, (.base (.bl b)), kit_ty (a := "bool") (b := "bool") (by decide +kernel), ?_⟩
      walk_at "s"
      exact k
    | str x =>
      refine ⟨_, _, _, _, false, rfl, .ty _, (.base (.str x)), kit_ty (a := "str") (b := "int") (by decide +kernel), ?_⟩
      walk_at "s"
      exact k
    | seq h =>
      rcases h with h | h
      · refine ⟨_, _, _, _, false, rfl, .ty _, (.base (.lst h)), kit_ty (a := "list") (b := "int") (by decide +kernel), ?_⟩
        walk_at "s"
        exact k
      · refine ⟨_, _, _, _, false, rfl, .ty _, (.base (.tup h)), kit_ty (a := "tuple") (b := "int") (by decide +kernel), ?_⟩
        walk_at "s"
        exact k
abbrev s_is_number : Stmt := topS 8
theorem sc_is_number : FnScope ["value"] ["value"] (defScope s_is_number) := ⟨rfl, rfl, rfl, by decide +kernel, rfl, by decide +kernel, by decide +kernel⟩
def spIsNum : Sp := fun vs H Q _ => ∃ (v : V) (e : El), vs = [v] ∧ ElAt H v e ∧ Q (.bl (isN e)) H
theorem ok_is_number (D : Df K mg "is_number" s_is_number ["value"]) (o_is_integer : Own P w K mg base "is_integer" 1 ["value"] spIsInt) : Own P w K mg base "is_number" 2 ["value"] spIsNum := by
  refine D.own sc_is_number (fun vs H Q E h => ?_) (fun f cdv A outer s H vs Q E hr h => ?_)
  · obtain ⟨v, e, rfl, _⟩ := h
    rfl
  · obtain ⟨v, e, rfl, hv, k⟩ := h
    refine ⟨_, (pss_one (ps_ret (pe_and (pe_own o_is_integer (hr.mono (by decide)) (pa_cons (pv 0) pa_nil)) (pe_one (pe_cmpR op_ge (pv 0) pe_int (nomark _)))))), ?_⟩
    refine ⟨_, rfl, ?_⟩
    refine ⟨_, _, rfl, hv, ?_⟩
    cases hv with
    | int i =>
      walk_at "s"
      exact k
    | non =>
      walk_at "s"
      exact k
    | bl b =>
      walk_at "s"
      exact k
    | str x =>
      walk_at "s"
      exact k
    | seq h =>
      walk_at "s"
      exact k
abbrev s_is_sequence : Stmt := topS 9
theorem sc_is_sequence : FnScope ["value"] ["value"] (defScope s_is_sequence) := ⟨rfl, rfl, rfl, by decide +kernel, rfl, by decide +kernel, by decide +kernel⟩
def spIsSeq (C : Addr) : Sp := fun vs H Q _ => ∃ (v : V) (d : Arg), vs = [v] ∧ ArgAt C H v d ∧ ∀ H', Same H H' → Q (.bl d.isSome) H'
theorem isiT2 {H : Hp} {Q : VK} {x : V} {tp : Addr} (t : Value) (b : Bool) (ht : H tp = some (.tup [.ty "list", .ty "tuple"])) (ty : TyX K H x t) (e : PySem.W.kitAny K t [.type "list", .type "tuple"] = some b) (q : Q (.bl b) H) : rIsiT K [x, .ref tp] H Q :=
  ⟨_, _, _, _, _, _, rfl, ht, .cons (.ty _) (.cons (.ty _) .nil), ty, e, q⟩
theorem ka2 {t : Value} {b b' : Bool} (h : PySem.W.kitOne K t (.type "list") = some b) (h' : PySem.W.kitOne K t (.type "tuple") = some b') : PySem.W.kitAny K t [.type "list", .type "tuple"] = some (b || b') := by
  cases b with
  | true => exact kitAny_cons h (fun z => nomatch z) (fun _ => rfl)
  | false =>
    refine kitAny_cons h (fun _ => ?_) (fun z => nomatch z)
    cases b' with
    | true => exact kitAny_cons h' (fun z => nomatch z) (fun _ => rfl)
    | false => exact kitAny_cons h' (fun _ => kitAny_nil) (fun z => nomatch z)
theorem ok_is_sequence {C : Addr} (D : Df K mg "is_sequence" s_is_sequence ["value"]) (T : Txt mg) (R : RowIs K C) : Own P w K mg base "is_sequence" 1 ["value"] (spIsSeq C) := by
  refine D.own sc_is_sequence (fun vs H Q E h => ?_) (fun f cdv A outer s H vs Q E hr h => ?_)
  · obtain ⟨v, d, rfl, _⟩ := h
    rfl
  · obtain ⟨v, d, rfl, hv, k⟩ := h
    refine ⟨_, (pss_one (ps_ret (pe_callB call_isiT (by rfl) T.isinstance (by decide +kernel) (pa_cons (pv 0) (pa_cons (pe_tup (pa_cons (pe_bltn (v := .ty "list") (by rfl) T.list (by decide +kernel) rfl) (pa_cons (pe_bltn (v := .ty "tuple") (by rfl) T.tuple (by decide +kernel) rfl) pa_nil))) pa_nil))))), ?_⟩
    refine ⟨_, rfl, ?_⟩
    walk_at "s"
    walk_at "new"
    rename_i t nt H1 s1 e1
    have k := k _ s1
    have hv := hv.same s1
    cases hv with
    | non => exact isiT2 _ _ e1 (.base .non) (ka2 (kit_ty (a := "NoneType") (by decide +kernel : kitB "NoneType" "list" = some false)) (kit_ty (a := "NoneType") (by decide +kernel : kitB "NoneType" "tuple" = some false))) k
    | int i => exact isiT2 _ _ e1 (.base (.int i)) (ka2 (kit_ty (a := "int") (by decide +kernel : kitB "int" "list" = some false)) (kit_ty (a := "int") (by decide +kernel : kitB "int" "tuple" = some false))) k
    | bl i => exact isiT2 _ _ e1 (.base (.bl i)) (ka2 (kit_ty (a := "bool") (by decide +kernel : kitB "bool" "list" = some false)) (kit_ty (a := "bool") (by decide +kernel : kitB "bool" "tuple" = some false))) k
    | str i => exact isiT2 _ _ e1 (.base (.str i)) (ka2 (kit_ty (a := "str") (by decide +kernel : kitB "str" "list" = some false)) (kit_ty (a := "str") (by decide +kernel : kitB "str" "tuple" = some false))) k
    | obj h => exact isiT2 _ _ e1 (.base (.ins h R.cl R.ha R.hn R.ht R.hm)) (ka2 R.l R.t) k
    | seq h e =>
      rcases h with h | h
      · exact isiT2 _ _ e1 (.base (.lst h)) (ka2 (kit_ty (a := "list") (by decide +kernel : kitB "list" "list" = some true)) (kit_ty (a := "list") (by decide +kernel : kitB "list" "tuple" = some false))) k
      · exact isiT2 _ _ e1 (.base (.tup h)) (ka2 (kit_ty (a := "tuple") (by decide +kernel : kitB "tuple" "list" = some false)) (kit_ty (a := "tuple") (by decide +kernel : kitB "tuple" "tuple" = some true))) k
/-! ### rows -/
def risesFrom : Option Int → List El → Bool
  | _, [] => true
  | _, none :: _ => false
  | none, some t :: r => risesFrom t r
  | some _, some none :: _ => false
  | some l, some (some x) :: r => if x < l then false else risesFrom (some x) r
abbrev s_rises : Stmt := topS 14
theorem sc_rises : FnScope ["things", "last", "thing"] ["things"] (defScope s_rises) := ⟨rfl, rfl, rfl, by decide +kernel, rfl, by decide +kernel, by decide +kernel⟩
def spRises : Sp := fun vs H Q _ => ∃ (a : Addr) (xs : List V) (es : List El), vs = [.ref a] ∧ SqH H a xs ∧ Els H xs es ∧ Q (.bl (risesFrom none es)) H
theorem ok_rises (D : Df K mg "_rises" s_rises ["things"]) (o_is_integer : Own P w K mg base "is_integer" 1 ["value"] spIsInt) : Own P w K mg base "_rises" 2 ["things"] spRises := by
  refine D.own sc_rises (fun vs H Q E h => ?_) (fun f cdv A outer s H vs Q E hr h => ?_)
  · obtain ⟨a, xs, es, rfl, _⟩ := h
    rfl
  · obtain ⟨a, xs, es, rfl, hS, hE, k⟩ := h
    refine ⟨_, (pss_cons (ps_set (i := 1) sc_rises.nd rfl (Or.inl rfl) pe_non)
  (pss_cons (ps_for PassesOwn.never rfl (pi_alt (pi_list (pv 0)) (pi_tup (pv 0))) (pg_name (i := 2) sc_rises.nd rfl (Or.inl rfl))
    (pss_one (ps_if (pt_cmpR op_notN (pv 2) pe_non (nomark _))
        (pss_cons (ps_if (PW.pt (pw_or (pt_not (pt_val (pe_own o_is_integer (hr.mono (by decide)) (pa_cons (pv 2) pa_nil)))) (pw_or1 (PW.pt (pw_and (pt_cmpR op_notN (pv 1) pe_non (nomark _)) (pw_and1 (pt_cmpR op_lt (pv 2) (pv 1) (nomark _))))))))
            (pss_one (ps_ret pe_bl))
            pss_nil)
          (pss_one (ps_set (i := 1) sc_rises.nd rfl (Or.inl rfl) (pv 2))))
        (pss_one (ps_if (pt_cmpR op_notN (pv 1) pe_non (nomark _))
            (pss_one (ps_ret pe_bl))
            pss_nil)))))
  (pss_one (ps_ret pe_bl)))), ?_⟩
    refine seq_pi (hS.sqs (K := K)) rfl fun J hJ => for_seq hJ (fun i σ H' => ∃ (l : Option Int) (y : Option V), σ = [some (.ref a), some (ov l), y] ∧ H' = H ∧ risesFrom l (es.drop i) = risesFrom none es)
      ⟨none, none, rfl, rfl, rfl⟩ (fun i σ H' ⟨_, _, _, e, _⟩ => e ▸ Same.refl _) ?_ ?_
    · rintro i x σ H' hi ⟨l, y, rfl, rfl, e⟩
      obtain ⟨t, ht, hx⟩ := hE.get hi
      have hd : es.drop i = t :: es.drop (i + 1) := by
        obtain ⟨q, rfl⟩ := List.getElem?_eq_some_iff.mp ht
        exact List.drop_eq_getElem_cons q
      rw [hd] at e
      have bad : ∀ l : Option Int, risesFrom l (none :: es.drop (i + 1)) = false := fun l => by cases l <;> rfl
      cases hx with
      | non =>
        walk_at "s"
        cases l with
        | none =>
          walk_at "s"
          first | exact e | exact ⟨none, _, rfl, rfl, e⟩
        | some l =>
          walk_at "s"
          rw [← e] at k
          exact k
      | int t =>
        walk_at "s"
        refine ⟨_, _, rfl, .int t, ?_⟩
        walk_at "s"
        cases l with
        | none =>
          walk_at "s"
          first | exact e | exact ⟨some t, _, rfl, rfl, e⟩
        | some l =>
          walk_at "s"
          refine ite2 (fun c => ?_) (fun c => ?_)
          · have c' : t < l := by simpa using c
            rw [← e, show risesFrom (some l) (some (some t) :: es.drop (i + 1)) = false from if_pos c'] at k
            exact k
          · have c' : ¬ t < l := by simpa using c
            walk_at "s"
            refine ⟨some t, _, rfl, rfl, ?_⟩
            rw [← e]
            exact (if_neg c').symm
      | bl b =>
        walk_at "s"
        refine ⟨_, _, rfl, .bl b, ?_⟩
        walk_at "s"
        rw [← e, bad] at k
        exact k
      | str b =>
        walk_at "s"
        refine ⟨_, _, rfl, .str b, ?_⟩
        walk_at "s"
        rw [← e, bad] at k
        exact k
      | seq b =>
        walk_at "s"
        refine ⟨_, _, rfl, .seq b, ?_⟩
        walk_at "s"
        rw [← e, bad] at k
        exact k
    · rintro σ H' ⟨l, y, rfl, rfl, e⟩
      have ed : es.drop xs.length = [] := List.drop_eq_nil_of_le (by rw [hE.len]; exact Nat.le_refl _)
      rw [ed] at e
      have et : risesFrom l [] = true := by cases l <;> rfl
      rw [← e, et] at k
      exact k
end
end My

namespace My
open PySem PySem.Spec PyProof.Rows L2
local macro_rules | `(tactic| walk_at "side") => `(tactic| first | (dsimp only; omega) | exact ⟨by omega, by omega⟩ | exact Or.inl ⟨by omega, by omega⟩ | exact Or.inr ⟨by omega, by omega⟩ | decide)
local macro_rules | `(tactic| walk_at "sq") => `(tactic| first | assumption | exact SqL.of (by assumption) | exact SqT.of (by assumption) | (refine L2.Same.seq (by assumption) ?_; walk_at "sq") | (refine L2.Same.seqT (by assumption) ?_; walk_at "sq") | exact Or.inl (by walk_at "sq") | exact Or.inr (by walk_at "sq"))
local macro_rules | `(tactic| walk_at "1") => `(tactic| first
  | refine ⟨_, rfl, iteT ?_⟩
  | refine ⟨_, rfl, iteF ?_⟩
  | refine ⟨_, rfl, ?_⟩
  | refine ⟨_, _, rfl, rfl, (by walk_at "side"), ?_⟩
  | refine ⟨_, _, rfl, rfl, ?_⟩
  | refine ⟨_, _, _, _, true, rfl, .ty _, .base (.int _), kit_ty (a := "int") (by decide +kernel), ?_⟩
  | refine ⟨_, _, _, _, false, rfl, .ty _, .base (.int _), kit_ty (a := "int") (by decide +kernel), ?_⟩
  | refine ⟨_, _, rfl, (by walk_at "sq"), ?_⟩
  | refine ⟨_, _, _, _, rfl, rfl, (by walk_at "sq"), (by first | rfl | assumption), ?_⟩
  | refine Or.inl ⟨_, _, _, _, rfl, rfl, (by walk_at "sq"), (by first | rfl | assumption), ?_⟩
  | refine Or.inr (Or.inl ⟨_, _, _, _, rfl, rfl, (by walk_at "sq"), (by first | rfl | assumption), ?_⟩)
  | refine ⟨_, _, rfl, Or.inl ⟨(by walk_at "sq"), ?_⟩⟩
  | refine ⟨rfl, ?_⟩
  | refine iteT ?_
  | refine iteF ?_
  | refine ⟨_, _, _, _, _, rfl, (by assumption), (by assumption), (by assumption), (by assumption), ?_⟩
  | refine ⟨_, _, _, rfl, (by assumption), rfl, ?_⟩
  | refine Or.inl ⟨_, rfl, ?_⟩
  | refine Or.inr ⟨_, rfl, ?_⟩
  | refine ⟨_, _, rfl, (by walk_at "side"), ?_⟩
  | refine ⟨_, _, rfl, ?_⟩)
local macro_rules | `(tactic| walk_at "fld") => `(tactic| skip)
local macro_rules | `(tactic| walk_at "s") => `(tactic| repeat walk_at "1")
local macro_rules | `(tactic| walk_at "size") => `(tactic| first | exact Nat.le_of_ble_eq_true rfl | (simp only [List.length_map, List.length_append, List.length_cons, List.length_nil]; omega))
local macro_rules | `(tactic| walk_at "new") => `(tactic| (first | refine ⟨(by walk_at "size"), fun p hp => ?_⟩ | refine fun p hp => ?_); (generalize hq : upd _ p _ = H1); (obtain ⟨s, e⟩ := new_facts hp hq); clear hq)

theorem ArgAt.inv {C : Addr} {H : Hp} {v : V} {es : List El} (h : ArgAt C H v (some es)) : ∃ a xs, v = .ref a ∧ SqH H a xs ∧ Els H xs es := by
  cases h with
  | seq h e => exact ⟨_, _, rfl, h, e⟩
theorem rises_good : ∀ (l : Option Int) (es : List El), risesFrom l es = true → es = (es.map (·.getD none)).map some
  | _, [], _ => rfl
  | none, none :: _, h => nomatch h
  | some _, none :: _, h => nomatch h
  | some _, some none :: _, h => nomatch h
  | none, some t :: r, h => by
    show some t :: r = some t :: (r.map (·.getD none)).map some
    rw [← rises_good t r h]
  | some l, some (some x) :: r, h => by
    by_cases c : x < l
    · have : risesFrom (some l) (some (some x) :: r) = false := if_pos c
      rw [this] at h
      cases h
    · have e : risesFrom (some l) (some (some x) :: r) = risesFrom (some x) r := if_neg c
      rw [e] at h
      show some (some x) :: r = some (some x) :: (r.map (·.getD none)).map some
      rw [← rises_good _ r h]
theorem els_good {H : Hp} : ∀ {vs : List V} (xs : List (Option Int)), Els H vs (xs.map some) → vs = xs.map ov
  | vs, [], h => by cases h; rfl
  | vs, x :: xs, h => by
    cases h with
    | cons h t =>
      rw [els_good xs t]
      cases h <;> rfl
theorem rises_some : ∀ (l : Int) (xs : List (Option Int)), risesFrom (some l) (xs.map some) = true → ∀ x ∈ xs, x ≠ none
  | _, [], _, x, h => nomatch h
  | l, none :: _, h, _, _ => nomatch h
  | l, some y :: r, h, x, hx => by
    by_cases c : y < l
    · have : risesFrom (some l) (some (some y) :: r.map some) = false := if_pos c
      have h' : risesFrom (some l) (some (some y) :: r.map some) = true := h
      rw [this] at h'
      cases h'
    · have e : risesFrom (some l) (some (some y) :: r.map some) = risesFrom (some y) (r.map some) := if_neg c
      have h' : risesFrom (some l) (some (some y) :: r.map some) = true := h
      rw [e] at h'
      rcases List.mem_cons.mp hx with rfl | hx
      · exact fun z => nomatch z
      · exact rises_some _ r h' x hx
abbrev wF : Str := "first"
abbrev wA : Str := "again"
abbrev wM : Str := "more"
/-- what things in a row tell, if they never fall -/
def riseO (es : List El) : Option (List (Option Int)) := if risesFrom none es = true then some (es.map (·.getD none)) else none
open Classical in
noncomputable def wordB (f a : List (Option Int)) (m : El) : Option Str :=
  match a.head?.join with
  | none => if a.getLast?.join ≠ none ∨ f.getLast?.join ≠ none then some wA else if m = some (some 0) then none else some wM
  | some lo => if (∃ e, f.getLast?.join = some e ∧ lo < e) then some wA else if (∃ k, m = some (some k) ∧ 0 ≤ k ∧ (a.getLast?.join).getD 0 - lo ≤ k) then none else some wM
open Classical in
/-- the name of the first wrong argument -/
noncomputable def wordA (f a : Arg) (m : El) : Option Str :=
  match f.bind riseO with
  | none => some wF
  | some f => match a.bind riseO with
    | none => some wA
    | some a => if a = [] then some wA else wordB f a m
def ovs : Option Str → V
  | none => .non
  | some s => .str s
theorem atI_neg1 {α : Type} {xs : List α} {v : α} (h : xs.getLast? = some v) : atI xs (-1) = some v := by
  obtain ⟨ys, rfl⟩ := List.getLast?_eq_some_iff.mp h
  exact atI_last ys v
theorem atI_head {α : Type} {xs : List α} {v : α} (h : xs.head? = some v) : atI xs 0 = some v := by
  cases xs with
  | nil => cases h
  | cons x r =>
    cases h
    exact atI_nat (j := 0) rfl
theorem last_map (xs : List (Option Int)) : (xs.map ov).getLast? = xs.getLast?.map ov := by simp
theorem head_map (xs : List (Option Int)) : (xs.map ov).head? = xs.head?.map ov := by simp
section
variable {P : Program} {w : World} {K : PySem.W.Frag} {mg : Str → Option Value} {base : Heap} {C : Addr}
abbrev s_wrong_argument : Stmt := topS 15
theorem sc_wrong_argument : FnScope ["first", "again", "more", "end"] ["first", "again", "more"] (defScope s_wrong_argument) := ⟨rfl, rfl, rfl, by decide +kernel, rfl, by decide +kernel, by decide +kernel⟩
def spWrong (C : Addr) : Sp := fun vs H Q _ => ∃ (v1 v2 v3 : V) (f a : Arg) (m : El), vs = [v1, v2, v3] ∧ ArgAt C H v1 f ∧ ArgAt C H v2 a ∧ ElAt H v3 m ∧ ∀ H', Same H H' → Q (ovs (wordA f a m)) H'
set_option maxHeartbeats 8000000 in
open Classical in
theorem ok_wrong (D : Df K mg "_wrong_argument" s_wrong_argument ["first", "again", "more"]) (T : Txt mg) (o_is_number : Own P w K mg base "is_number" 2 ["value"] spIsNum) (o_is_sequence : Own P w K mg base "is_sequence" 1 ["value"] (spIsSeq C))
    (o_rises : Own P w K mg base "_rises" 2 ["things"] spRises) : Own P w K mg base "_wrong_argument" 3 ["first", "again", "more"] (spWrong C) := by
  refine D.own sc_wrong_argument (fun vs H Q E h => ?_) (fun fa cdv A outer s H vs Q E hr h => ?_)
  · obtain ⟨_, _, _, _, _, _, rfl, _⟩ := h
    rfl
  · obtain ⟨v1, v2, v3, f, a, m, rfl, hF, hA, hM, k⟩ := h
    refine ⟨_, (pss_cons (ps_if (PW.pt (pw_or (pt_not (pt_val (pe_own o_is_sequence (hr.mono (by decide)) (pa_cons (pv 0) pa_nil)))) (pw_or1 (pt_not (pt_val (pe_own o_rises (hr.mono (by decide)) (pa_cons (pv 0) pa_nil)))))))
    (pss_one (ps_ret pe_str))
    pss_nil)
  (C8.pss_cut (ps_if (PW.pt (pw_or (pt_not (pt_val (pe_own o_is_sequence (hr.mono (by decide)) (pa_cons (pv 1) pa_nil)))) (pw_or (pt_cmpR op_eq (pe_callB call_len_seq (by rfl) T.len PySem.boot_len (pa_cons (pv 1) pa_nil)) pe_int (nomark _)) (pw_or1 (pt_not (pt_val (pe_own o_rises (hr.mono (by decide)) (pa_cons (pv 1) pa_nil))))))))
    (pss_one (ps_ret pe_str))
    pss_nil)
  (C8.pss_cut (ps_set (i := 3) sc_wrong_argument.nd rfl (Or.inl rfl) (pe_ifExp (pt_cmpR op_gt (pe_callB call_len_seq (by rfl) T.len PySem.boot_len (pa_cons (pv 0) pa_nil)) pe_int (nomark _)) (pe_ix ix_seq (pv 0) (pe_un un_neg pe_int) (fun _ _ => rfl)) pe_non))
  (pss_cons (ps_if (pt_cmpR op_isN (pe_ix ix_seq (pv 1) pe_int (fun _ _ => rfl)) pe_non (nomark _))
    (pss_cons (ps_if (PW.pt (pw_or (pt_cmpR op_notN (pe_ix ix_seq (pv 1) (pe_un un_neg pe_int) (fun _ _ => rfl)) pe_non (nomark _)) (pw_or1 (pt_cmpR op_notN (pv 3) pe_non (nomark _)))))
        (pss_one (ps_ret pe_str))
        pss_nil)
      (pss_one (ps_ret (pe_ifExp (PW.pt (pw_and (pt_val (pe_own o_is_number (hr.mono (by decide)) (pa_cons (pv 2) pa_nil))) (pw_and1 (pt_cmpR op_eq (pv 2) pe_int (nomark _))))) pe_non pe_str))))
    pss_nil)
  (pss_cons (ps_if (PW.pt (pw_and (pt_cmpR op_notN (pv 3) pe_non (nomark _)) (pw_and1 (pt_cmpR op_lt (pe_ix ix_seq (pv 1) pe_int (fun _ _ => rfl)) (pv 3) (nomark _)))))
    (pss_one (ps_ret pe_str))
    pss_nil)
  (pss_one (ps_ret (pe_ifExp (PW.pt (pw_and (pt_val (pe_own o_is_number (hr.mono (by decide)) (pa_cons (pv 2) pa_nil))) (pw_and1 (pt_cmpR op_ge (pv 2) (pe_op op_sub (pe_ix ix_seq (pv 1) (pe_un un_neg pe_int) (fun _ _ => rfl)) (pe_ix ix_seq (pv 1) pe_int (fun _ _ => rfl))) (nomark _))))) pe_non pe_str)))))))), ?_⟩
    refine ⟨_, rfl, ?_⟩
    refine ⟨_, _, rfl, hF, fun H1 s1 => ?_⟩
    have hF1 := hF.same s1
    have hA1 := hA.same s1
    have hM1 := hM.same s1
    cases f with
    | none =>
      walk_at "s"
      exact k _ s1
    | some fs =>
      obtain ⟨aF, xF, rfl, hSF, hEF⟩ := hF1.inv
      walk_at "s"
      refine ⟨aF, xF, fs, rfl, hSF, hEF, ?_⟩
      cases hrf : risesFrom none fs with
      | false =>
        have e : wordA (some fs) a m = some wF := by
          have : riseO fs = none := if_neg (by rw [hrf]; exact Bool.false_ne_true)
          show (match riseO fs with | none => some wF | some f => _) = _
          rw [this]
        rw [e] at k
        walk_at "s"
        exact k _ s1
      | true =>
        have egf := rises_good none fs hrf
        have eFo : riseO fs = some (fs.map (·.getD none)) := if_pos hrf
        generalize hfl : fs.map (·.getD none) = fl at egf eFo
        have eVF : xF = fl.map ov := els_good fl (egf ▸ hEF)
        subst eVF
        walk_at "s"
        refine ⟨fun σ' H' => ∃ (aA : Addr) (al : List (Option Int)), σ' = [some (.ref aF), some (.ref aA), some v3, none] ∧ v2 = .ref aA ∧ Same H H' ∧ SqH H' aF (fl.map ov) ∧ SqH H' aA (al.map ov) ∧ ElAt H' v3 m ∧ al ≠ [] ∧ risesFrom none (al.map some) = true ∧ wordA (some fs) a m = wordB fl al m, ?_, ?_⟩
        · refine ⟨_, rfl, ?_⟩
          refine ⟨_, _, rfl, hA1, fun H2 s2 => ?_⟩
          have s12 := s1.trans s2
          cases a with
          | none =>
            have e : wordA (some fs) none m = some wA := by
              show (match riseO fs with | none => some wF | some f => _) = _
              rw [eFo]
              rfl
            rw [e] at k
            walk_at "s"
            exact k _ s12
          | some as =>
            obtain ⟨aA, xA, rfl, hSA, hEA⟩ := (hA1.same s2).inv
            have hSA' := hSA.sqs (K := K)
            walk_at "s"
            have hlen := hEA.len
            by_cases hnil : as = []
            · subst hnil
              have hx : xA = [] := List.eq_nil_of_length_eq_zero hlen
              subst hx
              have e : wordA (some fs) (some []) m = some wA := by
                show (match riseO fs with | none => some wF | some f => _) = _
                rw [eFo]
                rfl
              rw [e] at k
              refine ite2 (fun _ => ?_) (fun c => (c (decide_eq_true rfl)).elim)
              walk_at "s"
              exact k _ s12
            · have hx : ¬ (xA.length : Int) = 0 := fun q => hnil (List.eq_nil_of_length_eq_zero (by omega))
              refine ite2 (fun c => (hx (V.int.inj (of_decide_eq_true c))).elim) (fun _ => ?_)
              walk_at "s"
              refine ⟨aA, xA, as, rfl, hSA, hEA, ?_⟩
              cases hra : risesFrom none as with
              | false =>
                have e : wordA (some fs) (some as) m = some wA := by
                  have : riseO as = none := if_neg (by rw [hra]; exact Bool.false_ne_true)
                  show (match riseO fs with | none => some wF | some f => match riseO as with | none => some wA | some a => _) = _
                  rw [eFo, this]
                rw [e] at k
                walk_at "s"
                exact k _ s12
              | true =>
                have ega := rises_good none as hra
                have eAo : riseO as = some (as.map (·.getD none)) := if_pos hra
                generalize hal : as.map (·.getD none) = al at ega eAo
                have eVA : xA = al.map ov := els_good al (ega ▸ hEA)
                subst eVA
                walk_at "s"
                have ne : al ≠ [] := fun z => hnil (by rw [ega, z]; rfl)
                refine ⟨aA, al, rfl, rfl, s12, s2.sqh hSF, hSA, hM1.same s2, ne, by rw [← ega]; exact hra, ?_⟩
                show (match riseO fs with | none => some wF | some f => match riseO as with | none => some wA | some a => if a = [] then some wA else wordB f a m) = _
                rw [eFo, eAo]
                exact if_neg ne
        · rintro σ' H' ⟨aA, al, rfl, rfl, s2, hF2, hA2, hM2, ne, hra, ew⟩
          rw [ew] at k
          replace k := k _ s2
          have hF3 := hF2.sqs (K := K)
          have hA3 := hA2.sqs (K := K)
          refine ⟨fun σ' H'' => σ' = [some (.ref aF), some (.ref aA), some v3, some (ov fl.getLast?.join)] ∧ H'' = H', ?_, ?_⟩
          · walk_at "s"
            cases hf : fl.getLast? with
            | none =>
              have : fl = [] := List.getLast?_eq_none_iff.mp hf
              subst this
              exact ite2 (fun c => by simp at c) (fun _ => ⟨rfl, rfl⟩)
            | some e =>
              have hm : atI (fl.map ov) (-1) = some (ov e) := atI_neg1 (by rw [last_map, hf]; rfl)
              have hp : 0 < fl.length := by
                cases fl with
                | nil => cases hf
                | cons x r => simp
              refine ite2 (fun c => ?_) (fun c => absurd (by simpa using hp) c)
              rcases hF3 with hF3 | hF3
              · walk_at "s"
                rfl
              · walk_at "s"
                rfl
          · rintro σ' H'' ⟨rfl, rfl⟩
            obtain ⟨x0, r0, rfl⟩ : ∃ x r, al = x :: r := by
              cases al with
              | nil => exact absurd rfl ne
              | cons x r => exact ⟨x, r, rfl⟩
            obtain ⟨xl, hxl⟩ : ∃ xl, (x0 :: r0).getLast? = some xl := ⟨_, List.getLast?_cons⟩
            have hm0 : atI ((x0 :: r0).map ov) 0 = some (ov x0) := atI_head rfl
            have hm1 : atI ((x0 :: r0).map ov) (-1) = some (ov xl) := atI_neg1 (by rw [last_map, hxl]; rfl)
            cases x0 with
            | none =>
              have ew2 : wordB fl (none :: r0) m = if xl ≠ none ∨ fl.getLast?.join ≠ none then some wA else if m = some (some 0) then none else some wM := by
                show (if (none :: r0).getLast?.join ≠ none ∨ fl.getLast?.join ≠ none then _ else _) = _
                rw [hxl]
                rfl
              rw [ew2] at k
              rcases hA3 with hA3 | hA3
              all_goals
                walk_at "s"
                cases xl with
                | some xl =>
                  rw [if_pos (Or.inl (fun z => nomatch z))] at k
                  walk_at "s"
                  exact k
                | none =>
                  cases hj : fl.getLast?.join with
                  | some e =>
                    rw [if_pos (Or.inr (by rw [hj]; exact fun z => nomatch z))] at k
                    walk_at "s"
                    exact k
                  | none =>
                    rw [if_neg (by rw [hj]; simp)] at k
                    walk_at "s"
                    cases hM2 with
                    | int i =>
                      by_cases c0 : 0 ≤ i
                      · rw [show isN (some (some i)) = true from decide_eq_true c0]
                        walk_at "s"
                        refine ite2 (fun c => ?_) (fun c => ?_)
                        · have c' : i = 0 := V.int.inj (of_decide_eq_true c)
                          rw [if_pos (by rw [c'])] at k
                          walk_at "s"
                          exact k
                        · rw [if_neg (fun z => c (decide_eq_true (by injection z with z; injection z with z; rw [z])))] at k
                          walk_at "s"
                          exact k
                      · rw [show isN (some (some i)) = false from decide_eq_false c0]
                        rw [if_neg (fun z => c0 (by injection z with z; injection z with z; omega))] at k
                        walk_at "s"
                        exact k
                    | non =>
                      walk_at "s"
                      exact k
                    | bl b =>
                      walk_at "s"
                      exact k
                    | str b =>
                      walk_at "s"
                      exact k
                    | seq b =>
                      walk_at "s"
                      exact k
            | some lo =>
              have hsome := rises_some lo r0 hra
              obtain ⟨hi, rfl⟩ : ∃ hi, xl = some hi := by
                have hmem := List.mem_of_getLast? hxl
                cases xl with
                | some hi => exact ⟨hi, rfl⟩
                | none =>
                  rcases List.mem_cons.mp hmem with z | z
                  · cases z
                  · exact absurd rfl (hsome none z)
              have ew2 : wordB fl (some lo :: r0) m = if (∃ e, fl.getLast?.join = some e ∧ lo < e) then some wA else if (∃ k, m = some (some k) ∧ 0 ≤ k ∧ hi - lo ≤ k) then none else some wM := by
                show (if (∃ e, fl.getLast?.join = some e ∧ lo < e) then _ else if (∃ k, m = some (some k) ∧ 0 ≤ k ∧ ((some lo :: r0).getLast?.join).getD 0 - lo ≤ k) then _ else _) = _
                rw [hxl]
                rfl
              rw [ew2] at k
              rcases hA3 with hA3 | hA3
              all_goals
                walk_at "s"
                cases hj : fl.getLast?.join with
                | some e =>
                  walk_at "s"
                  refine ite2 (fun c => ?_) (fun c => ?_)
                  · have c' : lo < e := of_decide_eq_true c
                    rw [if_pos ⟨e, hj, c'⟩] at k
                    walk_at "s"
                    exact k
                  · have n : ¬ (∃ e, fl.getLast?.join = some e ∧ lo < e) := fun ⟨e', h1, h2⟩ => by
                      rw [hj] at h1
                      injection h1 with h1
                      subst h1
                      exact c (decide_eq_true h2)
                    rw [if_neg n] at k
                    walk_at "s"
                    cases hM2 with
                    | int i =>
                      by_cases c0 : 0 ≤ i
                      · rw [show isN (some (some i)) = true from decide_eq_true c0]
                        walk_at "s"
                        refine ite2 (fun c => ?_) (fun c => ?_)
                        · rw [if_pos ⟨i, rfl, c0, of_decide_eq_true c⟩] at k
                          walk_at "s"
                          exact k
                        · rw [if_neg (fun ⟨i', h1, _, h3⟩ => c (decide_eq_true (by injection h1 with h1; injection h1 with h1; subst h1; exact h3)))] at k
                          walk_at "s"
                          exact k
                      · rw [show isN (some (some i)) = false from decide_eq_false c0]
                        rw [if_neg (fun ⟨i', h1, h2, _⟩ => c0 (by injection h1 with h1; injection h1 with h1; subst h1; exact h2))] at k
                        walk_at "s"
                        exact k
                    | non =>
                      rw [if_neg (fun ⟨i', h1, _⟩ => nomatch h1)] at k
                      walk_at "s"
                      exact k
                    | bl b =>
                      rw [if_neg (fun ⟨i', h1, _⟩ => nomatch h1)] at k
                      walk_at "s"
                      exact k
                    | str b =>
                      rw [if_neg (fun ⟨i', h1, _⟩ => nomatch h1)] at k
                      walk_at "s"
                      exact k
                    | seq b =>
                      rw [if_neg (fun ⟨i', h1, _⟩ => nomatch h1)] at k
                      walk_at "s"
                      exact k
                | none =>
                  have n : ¬ (∃ e, fl.getLast?.join = some e ∧ lo < e) := fun ⟨e', h1, h2⟩ => by
                    rw [hj] at h1
                    cases h1
                  rw [if_neg n] at k
                  walk_at "s"
                  cases hM2 with
                  | int i =>
                    by_cases c0 : 0 ≤ i
                    · rw [show isN (some (some i)) = true from decide_eq_true c0]
                      walk_at "s"
                      refine ite2 (fun c => ?_) (fun c => ?_)
                      · rw [if_pos ⟨i, rfl, c0, of_decide_eq_true c⟩] at k
                        walk_at "s"
                        exact k
                      · rw [if_neg (fun ⟨i', h1, _, h3⟩ => c (decide_eq_true (by injection h1 with h1; injection h1 with h1; subst h1; exact h3)))] at k
                        walk_at "s"
                        exact k
                    · rw [show isN (some (some i)) = false from decide_eq_false c0]
                      rw [if_neg (fun ⟨i', h1, h2, _⟩ => c0 (by injection h1 with h1; injection h1 with h1; subst h1; exact h2))] at k
                      walk_at "s"
                      exact k
                  | non =>
                    rw [if_neg (fun ⟨i', h1, _⟩ => nomatch h1)] at k
                    walk_at "s"
                    exact k
                  | bl b =>
                    rw [if_neg (fun ⟨i', h1, _⟩ => nomatch h1)] at k
                    walk_at "s"
                    exact k
                  | str b =>
                    rw [if_neg (fun ⟨i', h1, _⟩ => nomatch h1)] at k
                    walk_at "s"
                    exact k
                  | seq b =>
                    rw [if_neg (fun ⟨i', h1, _⟩ => nomatch h1)] at k
                    walk_at "s"
                    exact k
end
end My

namespace My
open PySem PySem.Spec PyProof.Rows L2
local macro_rules | `(tactic| walk_at "side") => `(tactic| first | (dsimp only; omega) | exact ⟨by omega, by omega⟩ | exact Or.inl ⟨by omega, by omega⟩ | exact Or.inr ⟨by omega, by omega⟩ | decide)
local macro_rules | `(tactic| walk_at "sq") => `(tactic| first | assumption | exact SqL.of (by assumption) | exact SqT.of (by assumption) | (refine L2.Same.seq (by assumption) ?_; walk_at "sq") | (refine L2.Same.seqT (by assumption) ?_; walk_at "sq") | exact Or.inl (by walk_at "sq") | exact Or.inr (by walk_at "sq"))
local macro_rules | `(tactic| walk_at "1") => `(tactic| first
  | refine ⟨_, rfl, iteT ?_⟩
  | refine ⟨_, rfl, iteF ?_⟩
  | refine ⟨_, rfl, ?_⟩
  | refine ⟨_, _, rfl, rfl, (by walk_at "side"), ?_⟩
  | refine ⟨_, _, rfl, rfl, ?_⟩
  | refine ⟨_, _, _, _, true, rfl, .ty _, .base (.int _), kit_ty (a := "int") (by decide +kernel), ?_⟩
  | refine ⟨_, _, _, _, false, rfl, .ty _, .base (.int _), kit_ty (a := "int") (by decide +kernel), ?_⟩
  | refine ⟨_, _, rfl, (by walk_at "sq"), ?_⟩
  | refine ⟨_, _, _, _, rfl, rfl, (by walk_at "sq"), (by first | rfl | assumption), ?_⟩
  | refine Or.inl ⟨_, _, _, _, rfl, rfl, (by walk_at "sq"), (by first | rfl | assumption), ?_⟩
  | refine Or.inr (Or.inl ⟨_, _, _, _, rfl, rfl, (by walk_at "sq"), (by first | rfl | assumption), ?_⟩)
  | refine ⟨rfl, ?_⟩
  | refine iteT ?_
  | refine iteF ?_
  | refine Or.inl ⟨_, rfl, ?_⟩)
local macro_rules | `(tactic| walk_at "s") => `(tactic| repeat walk_at "1")
local macro_rules | `(tactic| walk_at "size") => `(tactic| first | exact Nat.le_of_ble_eq_true rfl | (simp only [List.length_map, List.length_append, List.length_cons, List.length_nil]; omega))
local macro_rules | `(tactic| walk_at "new") => `(tactic| (first | refine ⟨(by walk_at "size"), fun p hp => ?_⟩ | refine fun p hp => ?_); (generalize hq : upd _ p _ = H1); (obtain ⟨s, e⟩ := new_facts hp hq); clear hq)

def later1 (m : Int) (t : Option Int) : Option Int := t.map (· + m)
theorem take_succ_map {α β : Type} {xs : List α} {i : Nat} {x : α} (f : α → β) (h : xs[i]? = some x) : (xs.take (i + 1)).map f = (xs.take i).map f ++ [f x] := by
  rw [List.take_add_one, h, List.map_append]
  rfl
theorem get_map {xs : List (Option Int)} {i : Nat} {x : V} (h : (xs.map ov)[i]? = some x) : ∃ t, xs[i]? = some t ∧ ov t = x := by simpa using h
/-! ### times as data -/
def od : Option Int → PyData
  | none => .none
  | some i => .int i
theorem dpAll_ov {K : PySem.W.Frag} {H : Hp} : ∀ xs : List (Option Int), DpAll K H (xs.map ov) (xs.map od)
  | [] => .nil
  | none :: r => .cons .non (dpAll_ov r)
  | some i :: r => .cons (.int i) (dpAll_ov r)
theorem canLay_od : ∀ xs : List (Option Int), PyData.canLayAll0 (xs.map od) = true
  | [] => rfl
  | none :: r => by
    show (true && PyData.canLayAll0 (r.map od)) = true
    rw [canLay_od r]; rfl
  | some i :: r => by
    show (true && PyData.canLayAll0 (r.map od)) = true
    rw [canLay_od r]; rfl
theorem depth_od : ∀ xs : List (Option Int), PyData.depthAll (xs.map od) = 0
  | [] => rfl
  | none :: r => by
    show max 0 (PyData.depthAll (r.map od)) = 0
    rw [depth_od r]; rfl
  | some i :: r => by
    show max 0 (PyData.depthAll (r.map od)) = 0
    rw [depth_od r]; rfl
theorem shaped_l (xs : List (Option Int)) : SeqAt.shaped (.list (xs.map od)) = true := by
  show (PyData.canLayAll0 (xs.map od) && decide (PyData.depthAll (xs.map od) + 1 ≤ 64)) = true
  rw [canLay_od, depth_od]; rfl
theorem shaped_t (xs : List (Option Int)) : SeqAt.shaped (.tuple (xs.map od)) = true := by
  show (PyData.canLayAll0 (xs.map od) && decide (PyData.depthAll (xs.map od) + 1 ≤ 64)) = true
  rw [canLay_od, depth_od]; rfl
theorem eqv_od (x y : Option Int) : PyData.eqv (od x) (od y) = decide (x = y) := by
  cases x <;> cases y
  · rfl
  · rfl
  · rfl
  · rename_i i j
    show (i == j) = decide (some i = some j)
    by_cases e : i = j
    · subst e; simp
    · rw [beq_eq_false_iff_ne.mpr e]
      exact (decide_eq_false fun q => e (Option.some.inj q)).symm
theorem eqvAll_od : ∀ xs ys : List (Option Int), PyData.eqvAll (xs.map od) (ys.map od) = decide (xs = ys)
  | [], [] => rfl
  | [], _ :: _ => rfl
  | _ :: _, [] => rfl
  | x :: xs, y :: ys => by
    show (PyData.eqv (od x) (od y) && PyData.eqvAll (xs.map od) (ys.map od)) = decide (x :: xs = y :: ys)
    rw [eqv_od, eqvAll_od xs ys]
    by_cases e : x = y
    · subst e; simp
    · rw [decide_eq_false e]
      exact (decide_eq_false fun q => e (List.cons.inj q).1).symm
theorem eqv_l (xs ys : List (Option Int)) : PyData.eqv (.list (xs.map od)) (.list (ys.map od)) = decide (xs = ys) := eqvAll_od xs ys
theorem eqv_t (xs ys : List (Option Int)) : PyData.eqv (.tuple (xs.map od)) (.tuple (ys.map od)) = decide (xs = ys) := eqvAll_od xs ys
/-- two lists of times compared -/
theorem rd_eqL {K : PySem.W.Frag} {H : Hp} {Q : VK} {p q : Addr} (xs ys : List (Option Int)) (h1 : SqL K H p (xs.map ov)) (h2 : SqL K H q (ys.map ov)) (k : Q (.bl (decide (xs = ys))) H) : rEqD K (.ref p) (.ref q) H Q :=
  ⟨_, _, .lst h1 (dpAll_ov xs), .lst h2 (dpAll_ov ys), shaped_l xs, shaped_l ys, by
    rw [show PyData.eqv (.list (xs.map od)) (.list (ys.map od)) = PyData.eqvAll (xs.map od) (ys.map od) from rfl, eqvAll_od]
    exact k⟩
theorem cut_from {xs : List V} {t : Nat} (h : t ≤ xs.length) : cutV xs (some (t : Int)) none = xs.drop t := by
  unfold cutV
  rw [HT.sIx_nat, HT.sIx_none, Nat.min_eq_left h]
  exact List.take_of_length_le (by rw [List.length_drop]; omega)
theorem cut_to {xs : List V} {t : Nat} (h : t ≤ xs.length) : cutV xs none (some (t : Int)) = xs.take t := by
  unfold cutV
  rw [HT.sIx_nat, HT.sIx_none, Nat.min_eq_left h, Nat.sub_zero]
  rfl
theorem cut_mid {xs : List V} {b t : Nat} (h : t ≤ xs.length) (hb : b ≤ t) : cutV xs (some (b : Int)) (some (t : Int)) = (xs.drop b).take (t - b) := by
  unfold cutV
  rw [HT.sIx_nat, HT.sIx_nat, Nat.min_eq_left h, Nat.min_eq_left (Nat.le_trans hb h)]
section
variable {P : Program} {w : World} {K : PySem.W.Frag} {mg : Str → Option Value} {base : Heap}
abbrev s_all_later : Stmt := topS 17
theorem sc_all_later : FnScope ["things", "lasts", "thing"] ["things", "lasts"] (defScope s_all_later) := ⟨rfl, rfl, rfl, by decide +kernel, rfl, by decide +kernel, by decide +kernel⟩
def spAllLater (K : PySem.W.Frag) : Sp := fun vs H Q _ => ∃ (a : Addr) (xs : List (Option Int)) (m : Int), vs = [.ref a, .int m] ∧ SqS K H a (xs.map ov) ∧ xs.length < sizeLine ∧ ∀ H' p, Same H H' → H p = none → H' p = some (.lst ((xs.map (later1 m)).map ov)) → Q (.ref p) H'
theorem ok_all_later (D : Df K mg "all_later" s_all_later ["things", "lasts"]) : Own P w K mg base "all_later" 1 ["things", "lasts"] (spAllLater K) := by
  refine D.own sc_all_later (fun vs H Q E h => ?_) (fun fa cdv A outer s H vs Q E hr h => ?_)
  · obtain ⟨_, _, _, rfl, _⟩ := h
    rfl
  · obtain ⟨a, xs, m, rfl, hS, hz, k⟩ := h
    refine ⟨_, (pss_one (ps_ret (pe_lc (own := [("thing", 2)]) (g := gName 2) (tt := tYes) rfl sc_all_later.nd (pi_alt (pi_list (pv 0)) (pi_tup (pv 0))) (blkOk_by (own := [("thing", 2)]) (N := ["things", "lasts", "thing"]) (sc := defScope s_all_later) (by decide +kernel)) (fun _ _ _ _ _ => (pg_name (i := 2) sc_all_later.nd rfl (Or.inl rfl))) (fun _ _ _ _ _ => pts_nil) (fun _ _ _ _ _ => (pe_ifExp (pt_cmpR op_isN (pv 2) pe_non (nomark _)) pe_non (pe_op op_add (pv 2) (pv 1))))))), ?_⟩
    refine seq_pi hS rfl fun J hJ => fun L nL => lc_seq hJ (fun i H' => Same H H' ∧ H' L = some (.lst (((xs.take i).map (later1 m)).map ov))) ⟨same_upd nL, upd_same⟩ (fun i H' q => q.1) ?_ ?_
    · rintro i x H' hi ⟨s1, e1⟩
      obtain ⟨t, ht, rfl⟩ := get_map hi
      have fin : Same H (upd H' L (.lst ((((xs.take i).map (later1 m)).map ov) ++ [ov (later1 m t)]))) ∧ (upd H' L (.lst ((((xs.take i).map (later1 m)).map ov) ++ [ov (later1 m t)]))) L = some (.lst (((xs.take (i + 1)).map (later1 m)).map ov)) := by
        refine ⟨s1.upd1 nL, ?_⟩
        rw [upd_same, take_succ_map _ ht, List.map_append]
        rfl
      have hz' : (((xs.take i).map (later1 m)).map ov).length < sizeLine := by
        rw [List.length_map, List.length_map, List.length_take]
        exact Nat.lt_of_le_of_lt (Nat.min_le_right _ _) hz
      cases t with
      | none =>
        walk_at "s"
        exact ⟨_, e1, hz', fin⟩
      | some t =>
        walk_at "s"
        exact ⟨_, e1, hz', fin⟩
    · rintro H' ⟨s1, e1⟩
      rw [show (xs.map ov).length = xs.length by simp, List.take_length] at e1
      exact k _ _ s1 nL e1
abbrev s_shortest_turn : Stmt := topS 16
theorem sc_shortest_turn : FnScope ["again", "more", "whole", "turn"] ["again", "more"] (defScope s_shortest_turn) := ⟨rfl, rfl, rfl, by decide +kernel, rfl, by decide +kernel, by decide +kernel⟩
/-- again comes again after t things -/
structure Fits (a : List (Option Int)) (m : Int) (t : Nat) : Prop where
  pos : 0 < t
  dvd : t ∣ a.length
  num : (m * t) % a.length = 0
  eq : a.drop t = (a.take (a.length - t)).map (later1 (m * t / a.length))
/-- the least one -/
structure LeastTurn (a : List (Option Int)) (m : Int) (t : Nat) : Prop where
  le : t ≤ a.length
  fits : Fits a m t
  least : ∀ t', t' < t → ¬ Fits a m t'
theorem fits_whole {a : List (Option Int)} {m : Int} (h : a ≠ []) : Fits a m a.length :=
  ⟨List.length_pos_iff.mpr h, Nat.dvd_refl _, by simp, by simp⟩
def spShortT : Sp := fun vs H Q _ => ∃ (aA : Addr) (a : List (Option Int)) (m : Int), vs = [.ref aA, .int m] ∧ SqH H aA (a.map ov) ∧ a ≠ [] ∧ a.length < 1000 ∧ 0 ≤ m ∧ m < 2 ^ 60 ∧ ∀ H' t, Same H H' → LeastTurn a m t → Q (.int (t : Int)) H'
theorem ok_shortest_turn (D : Df K mg "_shortest_turn" s_shortest_turn ["again", "more"]) (T : Txt mg) (o_all_later : Own P w K mg base "all_later" 1 ["things", "lasts"] (spAllLater K)) : Own P w K mg base "_shortest_turn" 2 ["again", "more"] spShortT := by
  refine D.own sc_shortest_turn (fun vs H Q E h => ?_) (fun fa cdv A outer s H vs Q E hr h => ?_)
  · obtain ⟨_, _, _, rfl, _⟩ := h
    rfl
  · obtain ⟨aA, a, m, rfl, hA, hne, hz, m0, m1, k⟩ := h
    refine ⟨_, (pss_cons (ps_set (i := 2) sc_shortest_turn.nd rfl (Or.inl rfl) (pe_callB call_len_seq (by rfl) T.len PySem.boot_len (pa_cons (pv 0) pa_nil)))
  (pss_cons (ps_for PassesOwn.never rfl (pi_range2 (by rfl) T.range (pa_cons pe_int (pa_cons (pv 2) pa_nil))) (pg_name (i := 3) sc_shortest_turn.nd rfl (Or.inl rfl))
    (pss_one (ps_if (PW.pt (pw_and (pt_cmpR op_eq (pe_op op_mod (pv 2) (pv 3)) pe_int (nomark _)) (pw_and1 (pt_cmpR op_eq (pe_op op_mod (pe_op op_mul (pv 1) (pv 3)) (pv 2)) pe_int (nomark _)))))
        (pss_one (ps_if (pt_cmpR (op_eqD hr.units) (pe_callTy call_list_of (by rfl) T.list (by decide +kernel) (pa_cons (pe_slice (SlR.or sl_list sl_tup) (pv 0) (po_some (pv 3)) po_none) pa_nil)) (pe_own o_all_later (hr.mono (by decide)) (pa_cons (pe_slice (SlR.or sl_list sl_tup) (pv 0) po_none (po_some (pe_op op_sub (pv 2) (pv 3)))) (pa_cons (pe_op op_fdiv (pe_op op_mul (pv 1) (pv 3)) (pv 2)) pa_nil))) (nomark _))
            (pss_one (ps_ret (pv 3)))
            pss_nil))
        pss_nil)))
  (pss_one (ps_ret (pv 2))))), ?_⟩
    have hA' : SqS K H aA (a.map ov) := hA.sqs
    have hlen : (a.map ov).length = a.length := List.length_map ..
    have hp : 0 < a.length := List.length_pos_iff.mpr hne
    walk_at "s"
    rw [hlen]
    refine ⟨1, a.length, rfl, ⟨by decide, by decide, by omega, by omega⟩, for_range (lo := 1) (n := ((a.length : Int) - 1).toNat) (fun i σ H' => ∃ y, σ = [some (.ref aA), some (.int m), some (.int (a.length : Int)), y] ∧ Same H H' ∧ ∀ t', t' < i + 1 → ¬ Fits a m t')
      ⟨_, rfl, Same.refl _, fun t' ht f => by have := f.pos; omega⟩ ?_ ?_⟩
    · rintro i σ H' hi ⟨y, rfl, s1, hno⟩
      have ei : (1 : Int) + (i : Int) = ((i + 1 : Nat) : Int) := by omega
      have hi1 : i + 1 < a.length := by omega
      rw [ei]
      have nxt : ¬ Fits a m (i + 1) → ∀ t', t' < i + 1 + 1 → ¬ Fits a m t' := fun h t' ht f => by
        by_cases e : t' = i + 1
        · rw [e] at f
          exact h f
        · exact hno t' (by omega) f
      walk_at "s"
      refine ite2 (fun c1 => ?_) (fun c1 => ?_)
      · walk_at "s"
        refine ite2 (fun c2 => ?_) (fun c2 => ?_)
        · walk_at "s"
          have hle : i + 1 ≤ (a.map ov).length := by omega
          have nw1 : ¬ (HT.sIx (a.map ov).length 0 (some ((i + 1 : Nat) : Int)) = 0 ∧ HT.sIx (a.map ov).length (a.map ov).length none = (a.map ov).length) := fun q => by
            have q1 := q.1
            rw [HT.sIx_nat] at q1
            omega
          have esub : ((a.length : Int) - ((i + 1 : Nat) : Int)) = ((a.length - (i + 1) : Nat) : Int) := by omega
          have nw2 : ¬ (HT.sIx (a.map ov).length 0 none = 0 ∧ HT.sIx (a.map ov).length (a.map ov).length (some ((a.length - (i + 1) : Nat) : Int)) = (a.map ov).length) := fun q => by
            have q1 := q.2
            rw [HT.sIx_nat] at q1
            omega
          rcases hA with hA | hA
          all_goals (
            first
              | refine Or.inl ⟨_, _, rfl, SqL.of (s1 _ _ hA), ?_⟩
              | refine Or.inr ⟨_, _, rfl, SqT.of (s1 _ _ hA), nw1, ?_⟩
            walk_at "new"
            rename_i p1 n1 H1 s2 e1
            rw [cut_from hle, ← List.map_drop] at e1
            walk_at "s"
            walk_at "new"
            rename_i p2 n2 H2 s3 e2
            walk_at "s"
            rw [esub]
            first
              | refine Or.inl ⟨_, _, rfl, SqL.of (s3 _ _ (s2 _ _ (s1 _ _ hA))), ?_⟩
              | refine Or.inr ⟨_, _, rfl, SqT.of (s3 _ _ (s2 _ _ (s1 _ _ hA))), nw2, ?_⟩
            walk_at "new"
            rename_i p3 n3 H3 s4 e3
            rw [cut_to (by omega), ← List.map_take] at e3
            walk_at "s"
            refine ⟨p3, a.take (a.length - (i + 1)), _, rfl, (by first | exact Or.inl (SqL.of e3) | exact Or.inr (SqT.of e3)), Nat.lt_of_le_of_lt (by rw [List.length_take]; omega) (small1000 (by omega : 1000 ≤ 1000)), fun H4 p4 s5 n4 e4 => ?_⟩
            refine ⟨_, _, .lst (SqL.of (s5 _ _ (s4 _ _ e2))) (dpAll_ov _), .lst (SqL.of e4) (dpAll_ov _), shaped_l _, shaped_l _, ?_⟩
            rw [eqv_l]
            have s6 : Same H H4 := s1.trans (s2.trans (s3.trans (s4.trans s5)))
            walk_at "s"
            have m1e : ((a.length : Int) % ((i + 1 : Nat) : Int)) = 0 := V.int.inj (of_decide_eq_true c1)
            have m2e : (m * ((i + 1 : Nat) : Int)) % (a.length : Int) = 0 := V.int.inj (of_decide_eq_true c2)
            refine ite2 (fun c3 => ?_) (fun c3 => ?_)
            · walk_at "s"
              exact k _ _ s6 ⟨by omega, ⟨by omega, Nat.dvd_of_mod_eq_zero (by omega), m2e, of_decide_eq_true c3⟩, fun t' ht => hno t' (by omega)⟩
            · walk_at "s"
              exact ⟨s6, nxt fun f => c3 (decide_eq_true f.eq)⟩)
        · walk_at "s"
          refine ⟨s1, nxt fun f => c2 (decide_eq_true (congrArg V.int f.num))⟩
      · walk_at "s"
        refine ⟨s1, nxt fun f => c1 (decide_eq_true (congrArg V.int ?_))⟩
        have := Nat.mod_eq_zero_of_dvd f.dvd
        omega
    · rintro σ H' ⟨y, rfl, s1, hno⟩
      walk_at "s"
      refine k _ _ s1 ⟨Nat.le_refl _, fits_whole hne, fun t' ht f => hno t' (by omega) f⟩
end
end My

namespace My
open PySem PySem.Spec PyProof.Rows L2
local macro_rules | `(tactic| walk_at "side") => `(tactic| first | (dsimp only; omega) | exact ⟨by omega, by omega⟩ | exact Or.inl ⟨by omega, by omega⟩ | exact Or.inr ⟨by omega, by omega⟩ | decide)
local macro_rules | `(tactic| walk_at "sq") => `(tactic| first | assumption | exact SqL.of (by assumption) | exact SqT.of (by assumption) | (refine L2.Same.seq (by assumption) ?_; walk_at "sq") | (refine L2.Same.seqT (by assumption) ?_; walk_at "sq") | exact Or.inl (by walk_at "sq") | exact Or.inr (by walk_at "sq"))
local macro_rules | `(tactic| walk_at "1") => `(tactic| first
  | refine ⟨_, rfl, iteT ?_⟩
  | refine ⟨_, rfl, iteF ?_⟩
  | refine ⟨_, rfl, ?_⟩
  | refine ⟨_, _, rfl, rfl, (by walk_at "side"), ?_⟩
  | refine ⟨_, _, rfl, rfl, ?_⟩
  | refine ⟨_, _, _, _, true, rfl, .ty _, .base (.int _), kit_ty (a := "int") (by decide +kernel), ?_⟩
  | refine ⟨_, _, _, _, false, rfl, .ty _, .base (.int _), kit_ty (a := "int") (by decide +kernel), ?_⟩
  | refine ⟨_, _, rfl, (by walk_at "sq"), ?_⟩
  | refine ⟨_, _, _, _, rfl, rfl, (by walk_at "sq"), (by first | rfl | assumption), ?_⟩
  | refine Or.inl ⟨_, _, _, _, rfl, rfl, (by walk_at "sq"), (by first | rfl | assumption), ?_⟩
  | refine Or.inr (Or.inl ⟨_, _, _, _, rfl, rfl, (by walk_at "sq"), (by first | rfl | assumption), ?_⟩)
  | refine ⟨rfl, ?_⟩
  | refine iteT ?_
  | refine iteF ?_
  | refine Or.inl ⟨_, rfl, ?_⟩)
local macro_rules | `(tactic| walk_at "s") => `(tactic| repeat walk_at "1")
local macro_rules | `(tactic| walk_at "size") => `(tactic| first | exact Nat.le_of_ble_eq_true rfl | (simp only [List.length_map, List.length_append, List.length_cons, List.length_nil]; omega))
local macro_rules | `(tactic| walk_at "new") => `(tactic| (first | refine ⟨(by walk_at "size"), fun p hp => ?_⟩ | refine fun p hp => ?_); (generalize hq : upd _ p _ = H1); (obtain ⟨s, e⟩ := new_facts hp hq); clear hq)

/-- the least begin from which on what stands comes again -/
structure ShortF (xs : List (Option Int)) (t : Nat) (g : Int) (b b' : Nat) : Prop where
  le : b' ≤ b
  eq : ∀ n, b' ≤ n → n < b → xs[n + t]? = (xs[n]?).map (later1 g)
  least : b' = 0 ∨ xs[b' - 1 + t]? ≠ (xs[b' - 1]?).map (later1 g)
section
variable {P : Program} {w : World} {K : PySem.W.Frag} {mg : Str → Option Value} {base : Heap}
abbrev s_shortest_first : Stmt := topS 18
theorem sc_shortest_first : FnScope ["things", "begin", "turn", "grow"] ["things", "begin", "turn", "grow"] (defScope s_shortest_first) := ⟨rfl, rfl, rfl, by decide +kernel, rfl, by decide +kernel, by decide +kernel⟩
def spShortF : Sp := fun vs H Q _ => ∃ (aT : Addr) (xs : List (Option Int)) (b t : Nat) (g : Int), vs = [.ref aT, .int b, .int t, .int g] ∧ H aT = some (.lst (xs.map ov)) ∧ 0 < t ∧ b + t ≤ xs.length ∧ ∀ H' b', Same H H' → ShortF xs t g b b' → Q (.int (b' : Nat)) H'
theorem ok_shortest_first (D : Df K mg "_shortest_first" s_shortest_first ["things", "begin", "turn", "grow"]) (o_all_later : Own P w K mg base "all_later" 1 ["things", "lasts"] (spAllLater K)) : Own P w K mg base "_shortest_first" 2 ["things", "begin", "turn", "grow"] spShortF := by
  refine D.own sc_shortest_first (fun vs H Q E h => ?_) (fun fa cdv A outer s H vs Q E hr h => ?_)
  · obtain ⟨_, _, _, _, _, rfl, _⟩ := h
    rfl
  · obtain ⟨aT, xs, b, t, g, rfl, hT, ht, hbt, k⟩ := h
    refine ⟨_, (pss_cons (ps_while PassesOwn.never (PW.pt (pw_and (pt_cmpR op_gt (pv 1) pe_int (nomark _)) (pw_and1 (pt_cmpR (op_eqD hr.units) (pe_lst (pa_cons (pe_ix ix_list (pv 0) (pe_op op_add (pe_op op_sub (pv 1) pe_int) (pv 2)) (fun _ _ => rfl)) pa_nil)) (pe_own o_all_later (hr.mono (by decide)) (pa_cons (pe_lst (pa_cons (pe_ix ix_list (pv 0) (pe_op op_sub (pv 1) pe_int) (fun _ _ => rfl)) pa_nil)) (pa_cons (pv 3) pa_nil))) (nomark _)))))
    (pss_one (ps_aug (i := 1) sc_shortest_first.nd rfl (Or.inl rfl) pe_int ip_sub)))
  (pss_one (ps_ret (pv 1)))), ?_⟩
    refine ⟨fun m σ H' => m ≤ b ∧ σ = [some (.ref aT), some (.int (m : Nat)), some (.int (t : Nat)), some (.int g)] ∧ Same H H' ∧ ∀ n, m ≤ n → n < b → xs[n + t]? = (xs[n]?).map (later1 g),
      ⟨b, Nat.le_refl _, rfl, Same.refl _, fun n h1 h2 => absurd h1 (by omega)⟩, ?_⟩
    rintro m σ H' ⟨hm, rfl, s1, he⟩
    cases m with
    | zero =>
      walk_at "s"
      exact k _ _ s1 ⟨Nat.zero_le _, he, Or.inl rfl⟩
    | succ m =>
      walk_at "s"
      have hp : decide ((0 : Int) < ((m + 1 : Nat) : Int)) = true := decide_eq_true (by omega)
      rw [hp]
      walk_at "s"
      have l1 : m + t < xs.length := by omega
      have l2 : m < xs.length := by omega
      have g1 : (xs.map ov)[m + t]? = some (ov xs[m + t]) := by rw [List.getElem?_map, List.getElem?_eq_getElem l1]; rfl
      have g2 : (xs.map ov)[m]? = some (ov xs[m]) := by rw [List.getElem?_map, List.getElem?_eq_getElem l2]; rfl
      refine ⟨_, _, _, _, rfl, rfl, SqL.of (s1 _ _ hT), at_of (by omega) g1, ?_⟩
      walk_at "s"
      walk_at "new"
      rename_i p1 n1 H1 s2 e1
      walk_at "s"
      refine ⟨_, _, _, _, rfl, rfl, SqL.of (s2 _ _ (s1 _ _ hT)), at_of (by omega) g2, ?_⟩
      walk_at "s"
      walk_at "new"
      rename_i p2 n2 H2 s3 e2
      walk_at "s"
      refine ⟨p2, [xs[m]], g, rfl, Or.inl (SqL.of e2), by exact Nat.lt_of_lt_of_le (by decide : 1 < 1000) (Nat.le_of_lt (small1000 (Nat.le_refl _))), fun H3 p3 s4 n4 e3 => ?_⟩
      refine ⟨_, _, .lst (xs := [xs[m + t]].map ov) (SqL.of (s4 _ _ (s3 _ _ e1))) (dpAll_ov [xs[m + t]]), .lst (SqL.of e3) (dpAll_ov _), shaped_l _, shaped_l _, ?_⟩
      rw [eqv_l]
      walk_at "s"
      have s5 : Same H H3 := s1.trans (s2.trans (s3.trans s4))
      have hx : xs[m + t]? = some xs[m + t] := List.getElem?_eq_getElem l1
      have hy : xs[m]? = some xs[m] := List.getElem?_eq_getElem l2
      refine ite2 (fun c => ?_) (fun c => ?_)
      · have c' := of_decide_eq_true c
        have c2 : xs[m + t] = later1 g xs[m] := by simpa using c'
        refine ⟨fun σ' H'' => σ' = [some (.ref aT), some (.int (m : Nat)), some (.int (t : Nat)), some (.int g)] ∧ H'' = H3, ?_, ?_⟩
        · rintro σ' H'' ⟨rfl, rfl⟩
          refine ⟨m, by omega, by omega, rfl, s5, fun n h1 h2 => ?_⟩
          by_cases e : n = m
          · rw [e, hx, hy, c2]; rfl
          · exact he n (by omega) h2
        · walk_at "s"
          refine ⟨?_, rfl⟩
          show [some (V.ref aT), some (V.int (((m + 1 : Nat) : Int) - 1)), some (V.int (t : Nat)), some (V.int g)] = _
          rw [show ((m + 1 : Nat) : Int) - 1 = (m : Int) by omega]
      · have c2 : ¬ xs[m + t] = later1 g xs[m] := fun q => c (decide_eq_true (by rw [q]; rfl))
        walk_at "s"
        refine k _ _ s5 ⟨hm, he, Or.inr ?_⟩
        show xs[m + t]? ≠ (xs[m]?).map (later1 g)
        rw [hx, hy]
        exact fun q => c2 (Option.some.inj q)
end
end My

namespace My
open PySem PySem.Spec PyProof.Rows L2
local macro_rules | `(tactic| walk_at "wp_side") => `(tactic| first | (dsimp only; omega) | exact ⟨by omega, by omega⟩ | exact Or.inl ⟨by omega, by omega⟩ | exact Or.inr ⟨by omega, by omega⟩ | decide)
local macro_rules | `(tactic| walk_at "wp1") => `(tactic| first
  | refine ⟨_, rfl, ?_⟩
  | refine ⟨_, _, rfl, rfl, (by walk_at "wp_side"), ?_⟩
  | refine ⟨_, _, rfl, rfl, ?_⟩
  | refine ⟨_, _, _, _, rfl, rfl, SqL.of (by first | assumption | exact upd_same), rfl, ?_⟩
  | refine ⟨_, _, _, _, rfl, rfl, (by first | assumption | exact upd_same), rfl, ?_⟩
  | refine ⟨_, _, rfl, Or.inl (by assumption), ?_⟩
  | refine Or.inl ⟨_, rfl, ?_⟩)
local macro_rules | `(tactic| walk_at "wps") => `(tactic| repeat walk_at "wp1")
local macro_rules | `(tactic| walk_at "side") => `(tactic| first | (dsimp only; omega) | exact ⟨by omega, by omega⟩ | exact Or.inl ⟨by omega, by omega⟩ | exact Or.inr ⟨by omega, by omega⟩ | decide)
local macro_rules | `(tactic| walk_at "sq") => `(tactic| first | assumption | exact SqL.of (by assumption) | exact SqT.of (by assumption) | (refine L2.Same.seq (by assumption) ?_; walk_at "sq") | (refine L2.Same.seqT (by assumption) ?_; walk_at "sq") | exact Or.inl (by walk_at "sq") | exact Or.inr (by walk_at "sq"))
local macro_rules | `(tactic| walk_at "1") => `(tactic| first
  | refine ⟨_, rfl, iteT ?_⟩
  | refine ⟨_, rfl, iteF ?_⟩
  | refine ⟨_, rfl, ?_⟩
  | refine ⟨_, _, rfl, rfl, (by walk_at "side"), ?_⟩
  | refine ⟨_, _, rfl, rfl, ?_⟩
  | refine ⟨_, _, _, _, true, rfl, .ty _, .base (.int _), kit_ty (a := "int") (by decide +kernel), ?_⟩
  | refine ⟨_, _, _, _, false, rfl, .ty _, .base (.int _), kit_ty (a := "int") (by decide +kernel), ?_⟩
  | refine ⟨_, _, rfl, (by walk_at "sq"), ?_⟩
  | refine ⟨_, _, _, _, rfl, rfl, (by walk_at "sq"), (by first | rfl | assumption), ?_⟩
  | refine Or.inl ⟨_, _, _, _, rfl, rfl, (by walk_at "sq"), (by first | rfl | assumption), ?_⟩
  | refine Or.inr (Or.inl ⟨_, _, _, _, rfl, rfl, (by walk_at "sq"), (by first | rfl | assumption), ?_⟩)
  | refine ⟨_, _, rfl, Or.inl ⟨(by walk_at "sq"), ?_⟩⟩
  | refine ⟨rfl, ?_⟩
  | refine iteT ?_
  | refine iteF ?_
  | refine ⟨_, _, _, _, _, rfl, (by assumption), (by assumption), (by assumption), (by assumption), ?_⟩
  | refine Or.inl ⟨_, rfl, ?_⟩
  | refine ⟨_, _, rfl, (by walk_at "side"), ?_⟩
  | refine ⟨_, _, rfl, ?_⟩)
local macro_rules | `(tactic| walk_at "fld") => `(tactic| skip)
local macro_rules | `(tactic| walk_at "s") => `(tactic| repeat walk_at "1")
local macro_rules | `(tactic| walk_at "size") => `(tactic| first | exact Nat.le_of_ble_eq_true rfl | (simp only [List.length_map, List.length_append, List.length_cons, List.length_nil]; omega))
local macro_rules | `(tactic| walk_at "new") => `(tactic| (first | refine ⟨(by walk_at "size"), fun p hp => ?_⟩ | refine fun p hp => ?_); (generalize hq : upd _ p _ = H1); (obtain ⟨s, e⟩ := new_facts hp hq); clear hq)

theorem upd_facts {H H1 : Hp} {p : Addr} {o : HO} (hq : upd H p o = H1) : H1 p = some o ∧ ∀ b, b ≠ p → H1 b = H b := by
  subst hq
  exact ⟨upd_same, fun b h => upd_ne h⟩

/-- a box of draws -/
def BoxAt (H : Hp) (b : Addr) : Prop := ∃ x y z : Int, 0 ≤ x ∧ H b = some (.lst [.int x, .int y, .int z])
/-- all but the box stands -/
def Bx (b : Addr) (H H' : Hp) : Prop := ∀ c o, c ≠ b → H c = some o → H' c = some o
theorem Bx.of {b : Addr} {H H' : Hp} (s : Same H H') : Bx b H H' := fun c o _ e => s c o e
theorem Bx.trans {b : Addr} {H H1 H2 : Hp} (s : Bx b H H1) (t : Bx b H1 H2) : Bx b H H2 := fun c o n e => t c o n (s c o n e)
theorem Bx.upd {b : Addr} {H : Hp} {o : HO} : Bx b H (upd H b o) := fun c x n e => by
  rw [upd_ne n]
  exact e
theorem Bx.same {b : Addr} {H0 H H' : Hp} (s : Bx b H H') (h : Same H0 H) (n : H0 b = none) : Same H0 H' := fun c o e => s c o (ne_of_none e n) (h c o e)
theorem BoxAt.same {b : Addr} {H H' : Hp} (h : BoxAt H b) (s : Same H H') : BoxAt H' b := by
  obtain ⟨x, y, z, h0, h1⟩ := h
  exact ⟨x, y, z, h0, s _ _ h1⟩
theorem BoxAt.ne {b p : Addr} {H : Hp} (h : BoxAt H b) (n : H p = none) : p ≠ b := by
  obtain ⟨x, y, z, h0, h1⟩ := h
  exact (ne_of_none h1 n).symm
def spTake : Sp := fun vs H Q _ => ∃ (b : Addr) (m : Nat), vs = [.ref b, .int m] ∧ 0 < m ∧ m < 1073741824 ∧ BoxAt H b ∧ ∀ (H' : Hp) (n : Nat), n < m → Bx b H H' → BoxAt H' b → Q (.int n) H'
def spBox (K : PySem.W.Frag) : Sp := fun vs H Q _ => ∃ (a : Addr) (ns : List Int) (k : Nat), vs = [.ref a, .int k] ∧ SqL K H a (ns.map V.int) ∧ ns.length ≤ 63 ∧
  ∀ (H' : Hp) (p : Addr), Same H H' → H p = none → BoxAt H' p → Q (.ref p) H'
section
variable {P : Program} {w : World} {K : PySem.W.Frag} {mg : Str → Option Value} {base : Heap} {C : Addr}
abbrev s_law_take : Stmt := topS 26
theorem sc_law_take : FnScope ["box", "many", "digit", "one"] ["box", "many"] (defScope s_law_take) := ⟨rfl, rfl, rfl, by decide +kernel, rfl, by decide +kernel, by decide +kernel⟩
theorem ok_take (D : Df K mg "_law_take" s_law_take ["box", "many"]) (T : Txt mg) : Own P w K mg base "_law_take" 1 ["box", "many"] spTake := by
  refine D.own sc_law_take (fun vs H Q E h => ?_) (fun fa cdv A outer s H vs Q E hr h => ?_)
  · obtain ⟨_, _, rfl, _⟩ := h
    rfl
  · obtain ⟨b, m, rfl, m0, m1, ⟨x, y, z, x0, hb⟩, k⟩ := h
    have h8 : (0:Int) < 8191 ∧ (8191:Int) < 1073741824 := by decide
    have fin : ∀ (i x' y' z' : Int), 0 ≤ i → i < m → 0 ≤ x' → Q (.int i) (upd H b (.lst [.int x', .int y', .int z'])) := fun i x' y' z' i0 i1 hx => by
      have := k (upd H b (.lst [.int x', .int y', .int z'])) i.toNat (by omega) Bx.upd ⟨x', y', z', hx, upd_same⟩
      rw [show ((i.toNat : Nat) : Int) = i by omega] at this
      exact this
    refine ⟨_, (pss_cons (ps_if (pt_cmpR op_gt (pe_ix ix_list (pv 0) pe_int (fun _ _ => rfl)) pe_int (nomark _))
    (pss_cons (ps_set (i := 2) sc_law_take.nd rfl (Or.inl rfl) (pe_op op_mod (pe_callTy call_int1 (by rfl) T.int (by decide +kernel) (pa_cons (pe_ix ix_list (pv 0) pe_int (fun _ _ => rfl)) pa_nil)) (pv 1)))
      (pss_cons (ps_asg (pe_op op_fdiv (pe_ix ix_list (pv 0) pe_int (fun _ _ => rfl)) (pv 1)) (pg_sub (pv 0) pe_int set_list))
      (pss_one (ps_ret (pv 2)))))
    pss_nil)
  (pss_cons (ps_asg (pe_op op_add (pe_ix ix_list (pv 0) pe_int (fun _ _ => rfl)) pe_int) (pg_sub (pv 0) pe_int set_list))
  (pss_cons (ps_set (i := 3) sc_law_take.nd rfl (Or.inl rfl) (pe_op op_mod (pe_callTy call_int1 (by rfl) T.int (by decide +kernel) (pa_cons (pe_op op_mul (pe_op op_add (pe_ix ix_list (pv 0) pe_int (fun _ _ => rfl)) (pe_op op_mul pe_int (pe_ix ix_list (pv 0) pe_int (fun _ _ => rfl)))) pe_int) pa_nil)) pe_int))
  (pss_cons (ps_asg (pe_op op_add (pe_op op_mod (pe_callTy call_int1 (by rfl) T.int (by decide +kernel) (pa_cons (pe_op op_add (pe_op op_mul (pv 3) pe_int) pe_int) pa_nil)) pe_int) pe_int) (pg_sub (pv 0) pe_int set_list))
  (pss_one (ps_ret (pe_op op_mod (pe_callTy call_int1 (by rfl) T.int (by decide +kernel) (pa_cons (pe_op op_fdiv (pe_op op_add (pe_op op_mul (pv 3) pe_int) (pe_ix ix_list (pv 0) pe_int (fun _ _ => rfl))) pe_int) pa_nil)) (pv 1)))))))), ?_⟩
    walk_at "wps"
    refine ite2 (fun c => ?_) (fun c => ?_)
    · have c' : 0 < x := by simpa using c
      walk_at "wps"
      exact fin _ _ _ _ (Int.emod_nonneg _ (by omega)) (Int.emod_lt_of_pos _ (by omega)) (Int.ediv_nonneg x0 (by omega))
    · walk_at "wps"
      rw [upd_upd]
      exact fin _ _ _ _ (Int.emod_nonneg _ (by omega)) (Int.emod_lt_of_pos _ (by omega)) x0
abbrev s_law_box : Stmt := topS 25
theorem sc_law_box : FnScope ["script", "k", "cell", "seed"] ["script", "k"] (defScope s_law_box) := ⟨rfl, rfl, rfl, by decide +kernel, rfl, by decide +kernel, by decide +kernel⟩
theorem ok_box (D : Df K mg "_law_box" s_law_box ["script", "k"]) (T : Txt mg) : Own P w K mg base "_law_box" 1 ["script", "k"] (spBox K) := by
  refine D.own sc_law_box (fun vs H Q E h => ?_) (fun fa cdv A outer s H vs Q E hr h => ?_)
  · obtain ⟨_, _, _, rfl, _⟩ := h
    rfl
  · obtain ⟨a, ns, k, rfl, hS, hlen, kk⟩ := h
    refine ⟨_, (pss_cons (ps_set (i := 2) sc_law_box.nd rfl (Or.inl rfl) (pe_op op_add (pe_op op_mul pe_int (pv 1)) pe_int))
  (C8.pss_cut (ps_if (pt_cmpR op_lt (pv 1) (pe_callB call_len_seq (by rfl) T.len PySem.boot_len (pa_cons (pv 0) pa_nil)) (nomark _))
    (pss_one (ps_set (i := 2) sc_law_box.nd rfl (Or.inl rfl) (pe_callB call_abs (by rfl) T.abs (by decide +kernel) (pa_cons (pe_ix ix_list (pv 0) (pv 1) (fun _ _ => rfl)) pa_nil))))
    (pss_one (ps_if (pt_cmpR op_gt (pe_callB call_len_seq (by rfl) T.len PySem.boot_len (pa_cons (pv 0) pa_nil)) pe_int (nomark _))
        (pss_one (ps_set (i := 2) sc_law_box.nd rfl (Or.inl rfl) (pe_op op_add (pv 2) (pe_op op_mul (pe_op op_mod (pe_callTy call_int1 (by rfl) T.int (by decide +kernel) (pa_cons (pe_callB call_abs (by rfl) T.abs (by decide +kernel) (pa_cons (pe_callTy call_int1 (by rfl) T.int (by decide +kernel) (pa_cons (pe_ix ix_list (pv 0) (pe_op op_mod (pe_callTy call_int1 (by rfl) T.int (by decide +kernel) (pa_cons (pv 1) pa_nil)) (pe_callB call_len_seq (by rfl) T.len PySem.boot_len (pa_cons (pv 0) pa_nil))) (fun _ _ => rfl)) pa_nil)) pa_nil)) pa_nil)) pe_int) pe_int))))
        pss_nil)))
  (pss_cons (ps_set (i := 3) sc_law_box.nd rfl (Or.inl rfl) (pe_op op_add (pe_op op_mod (pe_callTy call_int1 (by rfl) T.int (by decide +kernel) (pa_cons (pe_op op_add (pe_op op_mul (pe_op op_mod (pe_callTy call_int1 (by rfl) T.int (by decide +kernel) (pa_cons (pv 2) pa_nil)) pe_int) pe_int) (pe_op op_mul pe_int (pv 1))) pa_nil)) pe_int) pe_int))
  (pss_one (ps_ret (pe_lst (pa_cons (pe_ix ix_list (pe_lst (pa_cons pe_int (pa_cons (pv 2) pa_nil))) (pe_callTy call_int1 (by rfl) T.int (by decide +kernel) (pa_cons (pe_cmpR op_ge (pv 2) (pe_op op_pow pe_int pe_int) (nomark _)) pa_nil)) (fun _ _ => rfl)) (pa_cons (pv 3) (pa_cons pe_int pa_nil))))))))), ?_⟩
    walk_at "wps"
    refine ⟨fun σ' H' => (∃ c : Int, σ' = [some (.ref a), some (.int (k : Int)), some (.int c), none]) ∧ H' = H, ?_, ?_⟩
    · walk_at "wps"
      have hl : ((ns.map V.int).length : Int) = (ns.length : Int) := by rw [List.length_map]
      refine ite2 (fun c => ?_) (fun c => ?_)
      · have c' : k < ns.length := by
          have c2 : (k : Int) < ((ns.map V.int).length : Int) := by simpa using c
          omega
        walk_at "wps"
        refine ⟨_, _, _, _, rfl, rfl, hS, atI_nat (List.getElem?_eq_getElem (by rw [List.length_map]; exact c')), ?_⟩
        rw [List.getElem_map]
        walk_at "wps"
        exact ⟨⟨_, rfl⟩, rfl⟩
      · walk_at "wps"
        refine ite2 (fun d => ?_) (fun d => ?_)
        · have d' : 0 < ns.length := by
            have d2 : (0 : Int) < ((ns.map V.int).length : Int) := by simpa using d
            omega
          have hm : (k : Int) % ((ns.map V.int).length : Int) = ((k % ns.length : Nat) : Int) := by rw [hl]; simp
          have lt : k % ns.length < (ns.map V.int).length := by rw [List.length_map]; exact Nat.mod_lt _ d'
          walk_at "wps"
          refine ⟨_, _, _, _, rfl, rfl, hS, at_of hm (List.getElem?_eq_getElem lt), ?_⟩
          rw [List.getElem_map]
          walk_at "wps"
          exact ⟨⟨_, rfl⟩, rfl⟩
        · exact ⟨⟨_, rfl⟩, rfl⟩
    · rintro σ' H' ⟨⟨c, rfl⟩, rfl⟩
      walk_at "wps"
      refine ⟨Nat.le_of_ble_eq_true rfl, fun q hq => ?_⟩
      walk_at "wps"
      refine Or.inr ⟨_, rfl, ?_⟩
      have s1 : Same H' (upd H' q (.lst [.int 0, .int c])) := fun b o e => by
        rw [upd_ne (ne_of_none e hq)]
        exact e
      have fin : ∀ x : Int, 0 ≤ x → ∀ y : Int, ∀ p : Addr, upd H' q (.lst [.int 0, .int c]) p = none → Q (.ref p) (upd (upd H' q (.lst [.int 0, .int c])) p (.lst [.int x, .int y, .int 0])) := fun x x0 y p hp =>
        kk _ p (s1.trans fun b o e => by rw [upd_ne (ne_of_none e hp)]; exact e) (s1.free hp) ⟨x, y, 0, x0, upd_same⟩
      by_cases big : (10 : Int) ^ (18 : Int).toNat ≤ c
      · rw [decide_eq_true big]
        refine ⟨_, _, _, _, rfl, rfl, SqL.of upd_same, rfl, ?_⟩
        walk_at "wps"
        exact ⟨Nat.le_of_ble_eq_true rfl, fun p hp => fin c (Int.le_trans (by decide) big) _ p hp⟩
      · rw [decide_eq_false big]
        refine ⟨_, _, _, _, rfl, rfl, SqL.of upd_same, rfl, ?_⟩
        walk_at "wps"
        exact ⟨Nat.le_of_ble_eq_true rfl, fun p hp => fin 0 (Int.le_refl _) _ p hp⟩
abbrev s_law_pick : Stmt := topS 27
theorem sc_law_pick : FnScope ["box", "some"] ["box", "some"] (defScope s_law_pick) := ⟨rfl, rfl, rfl, by decide +kernel, rfl, by decide +kernel, by decide +kernel⟩
def spPick : Sp := fun vs H Q _ => ∃ (b a : Addr) (xs : List V), vs = [.ref b, .ref a] ∧ BoxAt H b ∧ a ≠ b ∧ H a = some (.lst xs) ∧ 0 < xs.length ∧ xs.length < 1000 ∧ ∀ (H' : Hp) (x : V), x ∈ xs → Bx b H H' → BoxAt H' b → Q x H'
theorem ok_pick (D : Df K mg "_law_pick" s_law_pick ["box", "some"]) (T : Txt mg) (o_law_take : Own P w K mg base "_law_take" 1 ["box", "many"] spTake) : Own P w K mg base "_law_pick" 2 ["box", "some"] spPick := by
  refine D.own sc_law_pick (fun vs H Q E h => ?_) (fun fa cdv A outer s H vs Q E hr h => ?_)
  · obtain ⟨_, _, _, rfl, _⟩ := h
    rfl
  · obtain ⟨b, a, xs, rfl, hb, nab, ha, l0, l1, k⟩ := h
    refine ⟨_, (pss_one (ps_ret (pe_ix ix_list (pv 1) (pe_own o_law_take (hr.mono (by decide)) (pa_cons (pv 0) (pa_cons (pe_callB call_len_seq (by rfl) T.len PySem.boot_len (pa_cons (pv 1) pa_nil)) pa_nil))) (fun _ _ => rfl)))), ?_⟩
    walk_at "s"
    refine ⟨by omega, hb, fun H1 n hn s1 b1 => ?_⟩
    have ha1 := s1 _ _ nab ha
    have hx : xs[n]? = some xs[n] := List.getElem?_eq_getElem hn
    refine ⟨_, _, _, _, rfl, rfl, SqL.of ha1, atI_nat hx, ?_⟩
    exact k _ _ (List.getElem_mem hn) s1 b1
end
end My

namespace My
open PySem PySem.Spec PyProof.Rows L2
local macro_rules | `(tactic| walk_at "side") => `(tactic| first | (dsimp only; omega) | exact ⟨by omega, by omega⟩ | exact Or.inl ⟨by omega, by omega⟩ | exact Or.inr ⟨by omega, by omega⟩ | decide)
local macro_rules | `(tactic| walk_at "sq") => `(tactic| first | assumption | exact SqL.of (by assumption) | exact SqT.of (by assumption) | (refine L2.Same.seq (by assumption) ?_; walk_at "sq") | (refine L2.Same.seqT (by assumption) ?_; walk_at "sq") | exact Or.inl (by walk_at "sq") | exact Or.inr (by walk_at "sq"))
local macro_rules | `(tactic| walk_at "1") => `(tactic| first
  | refine ⟨_, rfl, iteT ?_⟩
  | refine ⟨_, rfl, iteF ?_⟩
  | refine ⟨_, rfl, ?_⟩
  | refine ⟨_, _, rfl, rfl, (by walk_at "side"), ?_⟩
  | refine ⟨_, _, rfl, rfl, ?_⟩
  | refine ⟨_, _, _, _, true, rfl, .ty _, .base (.int _), kit_ty (a := "int") (by decide +kernel), ?_⟩
  | refine ⟨_, _, _, _, false, rfl, .ty _, .base (.int _), kit_ty (a := "int") (by decide +kernel), ?_⟩
  | refine ⟨_, _, rfl, (by walk_at "sq"), ?_⟩
  | refine ⟨_, _, _, _, rfl, rfl, (by walk_at "sq"), (by first | rfl | assumption), ?_⟩
  | refine Or.inl ⟨_, _, _, _, rfl, rfl, (by walk_at "sq"), (by first | rfl | assumption), ?_⟩
  | refine Or.inr (Or.inl ⟨_, _, _, _, rfl, rfl, (by walk_at "sq"), (by first | rfl | assumption), ?_⟩)
  | refine ⟨_, _, rfl, Or.inl ⟨(by walk_at "sq"), ?_⟩⟩
  | refine ⟨rfl, ?_⟩
  | refine iteT ?_
  | refine iteF ?_
  | refine ⟨_, _, _, _, _, rfl, (by assumption), (by assumption), (by assumption), (by assumption), ?_⟩
  | refine Or.inl ⟨_, rfl, ?_⟩
  | refine Or.inr ⟨_, rfl, ?_⟩
  | refine ⟨_, _, rfl, (by walk_at "side"), ?_⟩
  | refine ⟨_, _, rfl, ?_⟩)
local macro_rules | `(tactic| walk_at "fld") => `(tactic| skip)
local macro_rules | `(tactic| walk_at "s") => `(tactic| repeat walk_at "1")
local macro_rules | `(tactic| walk_at "size") => `(tactic| first | exact Nat.le_of_ble_eq_true rfl | (simp only [List.length_map, List.length_append, List.length_cons, List.length_nil]; omega))
local macro_rules | `(tactic| walk_at "new") => `(tactic| (first | refine ⟨(by walk_at "size"), fun p hp => ?_⟩ | refine fun p hp => ?_); (generalize hq : upd _ p _ = H1); (obtain ⟨s, e⟩ := new_facts hp hq); clear hq)

/-- rising, within bounds -/
structure Up (lo : Int) (L : List Int) (h : Int) : Prop where
  asc : L.Pairwise (· ≤ ·)
  bd : ∀ x ∈ L, lo ≤ x ∧ x ≤ h
theorem Up.app {lo h h' : Int} {L : List Int} (u : Up lo L h) (h0 : lo ≤ h) (h1 : h ≤ h') : Up lo (L ++ [h]) h' := by
  refine ⟨List.pairwise_append.mpr ⟨u.asc, List.pairwise_singleton _ _, fun x hx y hy => ?_⟩, fun x hx => ?_⟩
  · rw [List.mem_singleton.mp hy]
    exact (u.bd x hx).2
  · rcases List.mem_append.mp hx with q | q
    · have := u.bd x q
      exact ⟨this.1, by omega⟩
    · rw [List.mem_singleton.mp q]
      exact ⟨h0, h1⟩
/-- what a drawn row is -/
structure Shape (f a : List (Option Int)) (m : Int) : Prop where
  ex : ∃ (nn : Nat) (fl al : List Int) (lo hi : Int), f = List.replicate nn none ++ fl.map some ∧ a = al.map some ∧ (fl ++ al).Pairwise (· ≤ ·) ∧ al.head? = some lo ∧ al.getLast? = some hi ∧ hi - lo ≤ m ∧ m ≤ hi - lo + 4 ∧ nn ≤ 2 ∧ fl.length ≤ 3 ∧ al.length ≤ 3 ∧ (∀ x ∈ fl ++ al, -4 ≤ x ∧ x ≤ 40)
def ToldB (b : Addr) (H : Hp) (p : Addr) (f a : List (Option Int)) (m : Int) : Prop := ∃ pf pa, p ≠ b ∧ pf ≠ b ∧ pa ≠ b ∧ H p = some (.tup [.ref pf, .ref pa, .int m]) ∧ H pf = some (.lst (f.map ov)) ∧ H pa = some (.lst (a.map ov))
theorem ToldB.bx {b : Addr} {H H' : Hp} {p : Addr} {f a : List (Option Int)} {m : Int} (h : ToldB b H p f a m) (s : Bx b H H') : ToldB b H' p f a m := by
  obtain ⟨pf, pa, n1, n2, n3, h1, h2, h3⟩ := h
  exact ⟨pf, pa, n1, n2, n3, s _ _ n1 h1, s _ _ n2 h2, s _ _ n3 h3⟩
theorem ov_some (L : List Int) : L.map V.int = (L.map some).map ov := by
  rw [List.map_map]
  rfl
section
variable {P : Program} {w : World} {K : PySem.W.Frag} {mg : Str → Option Value} {base : Heap} {C : Addr}
abbrev s_law_row : Stmt := topS 29
theorem sc_law_row : FnScope ["box", "is_low", "here", "first", "turn", "again"] ["box", "is_low"] (defScope s_law_row) := ⟨rfl, rfl, rfl, by decide +kernel, rfl, by decide +kernel, by decide +kernel⟩
def spRow : Sp := fun vs H Q _ => ∃ (b : Addr) (low : Bool), vs = [.ref b, .bl low] ∧ BoxAt H b ∧ ∀ H' p f a m, Bx b H H' → BoxAt H' b → H p = none → ToldB b H' p f a m → Shape f a m → Q (.ref p) H'
theorem ok_law_row (D : Df K mg "_law_row" s_law_row ["box", "is_low"]) (T : Txt mg) (o_law_take : Own P w K mg base "_law_take" 1 ["box", "many"] spTake) (o_law_pick : Own P w K mg base "_law_pick" 2 ["box", "some"] spPick) : Own P w K mg base "_law_row" 3 ["box", "is_low"] spRow := by
  refine D.own sc_law_row (fun vs H Q E h => ?_) (fun fa cdv A outer s H vs Q E hr h => ?_)
  · obtain ⟨_, _, rfl, _⟩ := h
    rfl
  · obtain ⟨b, low, rfl, hb, k⟩ := h
    have h1000 : 1000 < sizeLine := small1000 (Nat.le_refl _)
    refine ⟨_, (pss_cons (ps_set (i := 2) sc_law_row.nd rfl (Or.inl rfl) (pe_op op_sub (pe_own o_law_take (hr.mono (by decide)) (pa_cons (pv 0) (pa_cons pe_int pa_nil))) (pe_op op_mul pe_int (pe_callTy call_int1 (by rfl) T.int (by decide +kernel) (pa_cons (pv 1) pa_nil)))))
  (pss_cons (ps_set (i := 3) sc_law_row.nd rfl (Or.inl rfl) (pe_lst pa_nil))
  (pss_cons (ps_for PassesOwn.never rfl (pi_range1 (by rfl) T.range (pa_cons (pe_own o_law_take (hr.mono (by decide)) (pa_cons (pv 0) (pa_cons pe_int pa_nil))) pa_nil)) (pg_name (i := 4) sc_law_row.nd rfl (Or.inl rfl))
    (pss_cons (ps_expr (pe_bm PySem.F.plainAttrs_list PySem.F.slot_list_append PySem.F.type_list_append mt_append (pv 3) (pa_cons (pv 2) pa_nil)))
      (pss_one (ps_set (i := 2) sc_law_row.nd rfl (Or.inl rfl) (pe_op op_add (pv 2) (pe_own o_law_pick (hr.mono (by decide)) (pa_cons (pv 0) (pa_cons (pe_lst (pa_cons pe_int (pa_cons pe_int (pa_cons pe_int (pa_cons pe_int pa_nil))))) pa_nil))))))))
  (C8.pss_cut (ps_if (pt_cmpR op_eq (pe_own o_law_take (hr.mono (by decide)) (pa_cons (pv 0) (pa_cons pe_int pa_nil))) pe_int (nomark _))
    (pss_one (ps_set (i := 3) sc_law_row.nd rfl (Or.inl rfl) (pe_op op_cat (pe_op op_rep (pe_lst (pa_cons pe_non pa_nil)) (pe_op op_add pe_int (pe_own o_law_take (hr.mono (by decide)) (pa_cons (pv 0) (pa_cons pe_int pa_nil))))) (pv 3))))
    pss_nil)
  (pss_cons (ps_set (i := 5) sc_law_row.nd rfl (Or.inl rfl) (pe_lst pa_nil))
  (pss_cons (ps_for PassesOwn.never rfl (pi_range1 (by rfl) T.range (pa_cons (pe_op op_add pe_int (pe_own o_law_take (hr.mono (by decide)) (pa_cons (pv 0) (pa_cons pe_int pa_nil)))) pa_nil)) (pg_name (i := 4) sc_law_row.nd rfl (Or.inl rfl))
    (pss_cons (ps_expr (pe_bm PySem.F.plainAttrs_list PySem.F.slot_list_append PySem.F.type_list_append mt_append (pv 5) (pa_cons (pv 2) pa_nil)))
      (pss_one (ps_set (i := 2) sc_law_row.nd rfl (Or.inl rfl) (pe_op op_add (pv 2) (pe_own o_law_pick (hr.mono (by decide)) (pa_cons (pv 0) (pa_cons (pe_lst (pa_cons pe_int (pa_cons pe_int (pa_cons pe_int (pa_cons pe_int pa_nil))))) pa_nil))))))))
  (pss_one (ps_ret (pe_tup (pa_cons (pv 3) (pa_cons (pv 5) (pa_cons (pe_op op_add (pe_op op_sub (pe_ix ix_list (pv 5) (pe_un un_neg pe_int) (fun _ _ => rfl)) (pe_ix ix_list (pv 5) pe_int (fun _ _ => rfl))) (pe_own o_law_take (hr.mono (by decide)) (pa_cons (pv 0) (pa_cons pe_int pa_nil)))) pa_nil)))))))))))), ?_⟩
    walk_at "s"
    refine ⟨by decide, hb, fun H1 n0 hn0 s1 b1 => ?_⟩
    have hn0' : n0 < 7 := hn0
    walk_at "s"
    have hlow : (0 : Int) ≤ (if low = true then 1 else 0) ∧ ((if low = true then 1 else 0 : Int)) ≤ 1 := by cases low <;> decide
    generalize hl : (if low = true then (1 : Int) else 0) = l0 at hlow ⊢
    have hs0 : -4 ≤ (n0 : Int) - 4 * l0 ∧ (n0 : Int) - 4 * l0 ≤ 6 := ⟨by omega, by omega⟩
    generalize hst : (n0 : Int) - 4 * l0 = st at hs0
    walk_at "new"
    rename_i pF nF H2 s2 e2
    have nFb : pF ≠ b := b1.ne nF
    have b2 := b1.same s2
    walk_at "s"
    refine ⟨by decide, b2, fun H3 n1 hn1 s3 b3 => ?_⟩
    have hn1' : n1 < 4 := hn1
    have e3 := s3 _ _ nFb e2
    have S3 : Bx b H H3 := s1.trans ((Bx.of s2).trans s3)
    have nFH : H pF = none := by
      cases q : H pF with
      | none => rfl
      | some o =>
        have := s1 _ _ nFb q
        rw [nF] at this
        cases this
    walk_at "s"
    refine ⟨by omega, by omega, for_range (lo := 0) (n := n1) (fun i σ H' => ∃ (fl : List Int) (h : Int) (y : Option V), σ = [some (.ref b), some (.bl low), some (.int h), some (.ref pF), y, none] ∧ Bx b H H' ∧ BoxAt H' b ∧ H' pF = some (.lst (fl.map V.int)) ∧ fl.length = i ∧ Up st fl h ∧ st ≤ h ∧ h ≤ st + 5 * i) ?_ ?_ ?_⟩
    · refine ⟨[], st, none, ?_, S3, b3, e3, rfl, ⟨List.Pairwise.nil, fun x hx => nomatch hx⟩, Int.le_refl _, by omega⟩
      rw [← hst]
      rfl
    · rintro i σ H' hi ⟨fl, h, y, rfl, S', b', e', hlen, up, h1, h2⟩
      walk_at "s"
      refine ⟨.inl ⟨rfl, _, SqL.of e'⟩, _, rfl, pF, _, _, rfl, rfl, e', by rw [List.length_map]; omega, ?_⟩
      generalize hq : upd _ pF _ = H4
      obtain ⟨e4, o4⟩ := upd_facts hq
      clear hq
      have S4 : Bx b H H4 := fun c o nc e => by
        rw [o4 c (ne_of_none e nFH)]
        exact S' c o nc e
      have b4 : BoxAt H4 b := by
        obtain ⟨x, y, z, x0, hb⟩ := b'
        exact ⟨x, y, z, x0, by rw [o4 b nFb.symm]; exact hb⟩
      walk_at "s"
      walk_at "new"
      rename_i pL nL H5 s5 e5
      have b5 := b4.same s5
      have nLb : pL ≠ b := b4.ne nL
      refine ⟨b, pL, _, rfl, b5, nLb, e5, by decide, by decide, fun H6 x hx s6 b6 => ?_⟩
      obtain ⟨d, rfl, d0, d1⟩ : ∃ d : Int, x = .int d ∧ 0 ≤ d ∧ d ≤ 5 := by
        simp only [List.mem_cons, List.not_mem_nil, or_false] at hx
        rcases hx with rfl | rfl | rfl | rfl
        · exact ⟨0, rfl, by decide, by decide⟩
        · exact ⟨1, rfl, by decide, by decide⟩
        · exact ⟨2, rfl, by decide, by decide⟩
        · exact ⟨5, rfl, by decide, by decide⟩
      have e6 := s6 _ _ nFb (s5 _ _ e4)
      walk_at "s"
      refine ⟨fl ++ [h], h + d, _, rfl, S4.trans ((Bx.of s5).trans s6), b6, ?_, by simp [hlen], up.app h1 (by omega), by omega, by omega⟩
      rw [e6, List.map_append]
      rfl
    · rintro σ H' ⟨fl, h, y, rfl, S', b', e', hlen, up, h1, h2⟩
      refine ⟨fun σ' H4 => ∃ (nn : Nat) (pf : Addr) (y : Option V), σ' = [some (.ref b), some (.bl low), some (.int h), some (.ref pf), y, none] ∧ Bx b H H4 ∧ BoxAt H4 b ∧ H pf = none ∧ pf ≠ b ∧ nn ≤ 2 ∧ H4 pf = some (.lst ((List.replicate nn none ++ fl.map some).map ov)), ?_, ?_⟩
      · walk_at "s"
        refine ⟨by decide, b', fun H4 n4 hn4 s4 b4 => ?_⟩
        have e4 := s4 _ _ nFb e'
        walk_at "s"
        refine ite2 (fun c => ?_) (fun c => ?_)
        · walk_at "new"
          rename_i pN nN H5 s5 e5
          have b5 := b4.same s5
          have nNb : pN ≠ b := b4.ne nN
          have e5f := s5 _ _ e4
          walk_at "s"
          refine ⟨by decide, b5, fun H6 n6 hn6 s6 b6 => ?_⟩
          have hn6' : n6 < 2 := hn6
          have e6 := s6 _ _ nNb e5
          have e6f := s6 _ _ nFb e5f
          walk_at "s"
          refine ⟨_, _, _, rfl, rfl, e6, by omega, by omega, ?_, ?_⟩
          · show 1 * ((1 : Int) + (n6 : Int)).toNat ≤ sizeLine
            omega
          walk_at "new"
          rename_i pR nR H7 s7 e7
          have e7f := s7 _ _ e6f
          rw [List.flatten_replicate_singleton] at e7
          walk_at "s"
          refine ⟨by rw [List.length_replicate, List.length_map]; omega, ?_⟩
          walk_at "new"
          rename_i pS nS H8 s8 e8
          have B8 : Bx b H H8 := S'.trans (s4.trans ((Bx.of s5).trans (s6.trans (Bx.of (s7.trans s8)))))
          have b8 : BoxAt H8 b := (b6.same s7).same s8
          have nSb : pS ≠ b := (b6.same s7).ne nS
          have nSH : H pS = none := by
            cases q : H pS with
            | none => rfl
            | some o =>
              have := s7 _ _ (s6 _ _ nSb (s5 _ _ (s4 _ _ nSb (S' _ _ nSb q))))
              rw [nS] at this
              cases this
          refine ⟨(1 + (n6 : Int)).toNat, pS, y, rfl, B8, b8, nSH, nSb, by omega, ?_⟩
          rw [e8, List.map_append, List.map_replicate, ov_some]
          rfl
        · exact ⟨0, pF, y, rfl, S'.trans s4, b4, nFH, nFb, by omega, by rw [e4, ov_some]; rfl⟩
      · rintro σ' H4 ⟨nn, pf, y4, rfl, S4, b4, nfH, nfb, hnn, e4⟩
        walk_at "new"
        rename_i pA nA H5 s5 e5
        have b5 := b4.same s5
        have nAb : pA ≠ b := b4.ne nA
        have nAf : pf ≠ pA := ne_of_none e4 nA
        have nAH : H pA = none := by
          cases q : H pA with
          | none => rfl
          | some o =>
            have := S4 _ _ nAb q
            rw [nA] at this
            cases this
        have e5f := s5 _ _ e4
        walk_at "s"
        refine ⟨by decide, b5, fun H6 n6 hn6 s6 b6 => ?_⟩
        have hn6' : n6 < 3 := hn6
        have e6 := s6 _ _ nAb e5
        have e6f := s6 _ _ nfb e5f
        have S6 : Bx b H H6 := S4.trans ((Bx.of s5).trans s6)
        walk_at "s"
        refine ⟨by omega, by omega, for_range (lo := 0) (n := (1 + (n6 : Int)).toNat) (fun i σ H' => ∃ (al : List Int) (h' : Int) (y : Option V), σ = [some (.ref b), some (.bl low), some (.int h'), some (.ref pf), y, some (.ref pA)] ∧ Bx b H H' ∧ BoxAt H' b ∧ H' pA = some (.lst (al.map V.int)) ∧ H' pf = some (.lst ((List.replicate nn none ++ fl.map some).map ov)) ∧ al.length = i ∧ Up st (fl ++ al) h' ∧ st ≤ h' ∧ h' ≤ st + 15 + 4 * i ∧ (∀ z, al.head? = some z → h' ≤ z + 4 * i)) ?_ ?_ ?_⟩
        · refine ⟨[], h, _, rfl, S6, b6, e6, e6f, rfl, ?_, h1, by omega, fun z hz => nomatch hz⟩
          rw [List.append_nil]
          exact up
        · rintro i σ H' hi ⟨al, h', y, rfl, S', b', e', ef', hlen', up', h1', h2', h3'⟩
          walk_at "s"
          refine ⟨.inl ⟨rfl, _, SqL.of e'⟩, _, rfl, pA, _, _, rfl, rfl, e', by rw [List.length_map]; omega, ?_⟩
          generalize hq : upd _ pA _ = H7
          obtain ⟨e7, o7⟩ := upd_facts hq
          clear hq
          have S7 : Bx b H H7 := fun c o nc e => by
            rw [o7 c (ne_of_none e nAH)]
            exact S' c o nc e
          have b7 : BoxAt H7 b := by
            obtain ⟨x, y, z, x0, hb⟩ := b'
            exact ⟨x, y, z, x0, by rw [o7 b nAb.symm]; exact hb⟩
          have e7f : H7 pf = some (.lst ((List.replicate nn none ++ fl.map some).map ov)) := by
            rw [o7 _ nAf]
            exact ef'
          walk_at "s"
          walk_at "new"
          rename_i pL nL H8 s8 e8
          have b8 := b7.same s8
          have nLb : pL ≠ b := b7.ne nL
          refine ⟨b, pL, _, rfl, b8, nLb, e8, by decide, by decide, fun H9 x hx s9 b9 => ?_⟩
          obtain ⟨d, rfl, d0, d1⟩ : ∃ d : Int, x = .int d ∧ 0 ≤ d ∧ d ≤ 4 := by
            simp only [List.mem_cons, List.not_mem_nil, or_false] at hx
            rcases hx with rfl | rfl | rfl | rfl
            · exact ⟨0, rfl, by decide, by decide⟩
            · exact ⟨1, rfl, by decide, by decide⟩
            · exact ⟨2, rfl, by decide, by decide⟩
            · exact ⟨4, rfl, by decide, by decide⟩
          have e9 := s9 _ _ nAb (s8 _ _ e7)
          have e9f := s9 _ _ nfb (s8 _ _ e7f)
          walk_at "s"
          refine ⟨al ++ [h'], h' + d, _, rfl, S7.trans ((Bx.of s8).trans s9), b9, ?_, e9f, by simp [hlen'], ?_, by omega, by omega, fun z hz => ?_⟩
          · rw [e9, List.map_append]
            rfl
          · rw [← List.append_assoc]
            exact up'.app h1' (by omega)
          · cases al with
            | nil =>
              have : h' = z := Option.some.inj hz
              omega
            | cons w r =>
              have := h3' z hz
              omega
        · rintro σ H' ⟨al, h', y, rfl, S', b', e', ef', hlen', up', h1', h2', h3'⟩
          have hal : al.length = n6 + 1 := by omega
          obtain ⟨lo, hlo⟩ : ∃ lo, al.head? = some lo := by
            cases al with
            | nil => cases hal
            | cons w r => exact ⟨w, rfl⟩
          obtain ⟨hi, hhi⟩ : ∃ hi, al.getLast? = some hi := by
            cases q : al.getLast? with
            | none =>
              rw [List.getLast?_eq_none_iff.mp q] at hal
              cases hal
            | some w => exact ⟨w, rfl⟩
          have a0 : atI (al.map V.int) 0 = some (.int lo) := atI_head (by rw [List.head?_map, hlo]; rfl)
          have a1 : atI (al.map V.int) (-1) = some (.int hi) := atI_neg1 (by rw [List.getLast?_map, hhi]; rfl)
          walk_at "s"
          refine ⟨by decide, b', fun H7 r hr7 s7 b7 => ?_⟩
          have hr7' : r < 5 := hr7
          have e7 := s7 _ _ nAb e'
          have e7f := s7 _ _ nfb ef'
          walk_at "s"
          walk_at "new"
          rename_i pT nT H8 s8 e8
          have nTb : pT ≠ b := b7.ne nT
          have B8 : Bx b H H8 := S'.trans (s7.trans (Bx.of s8))
          have nTH : H pT = none := by
            cases q : H pT with
            | none => rfl
            | some o =>
              have := s7 _ _ nTb (S' _ _ nTb q)
              rw [nT] at this
              cases this
          have hn1' : n1 < 4 := hn1
          have mlo : lo ∈ al := List.mem_of_mem_head? hlo
          have mhi : hi ∈ al := List.mem_of_getLast? hhi
          have hbd := fun x hx => up'.bd x hx
          have blo := hbd lo (List.mem_append_right _ mlo)
          have bhi := hbd hi (List.mem_append_right _ mhi)
          have hz := h3' lo hlo
          refine k H8 pT (List.replicate nn none ++ fl.map some) (al.map some) (hi - lo + r) B8 (b7.same s8) nTH ⟨pf, pA, nTb, nfb, nAb, e8, s8 _ _ e7f, by rw [s8 _ _ e7, ov_some]⟩
            ⟨nn, fl, al, lo, hi, rfl, rfl, up'.asc, hlo, hhi, by omega, by omega, hnn, by omega, by omega, fun x hx => ?_⟩
          have := hbd x hx
          omega
end
end My

namespace My
open PySem PySem.Spec PyProof.Rows L2
local macro_rules | `(tactic| walk_at "side") => `(tactic| first | (dsimp only; omega) | exact ⟨by omega, by omega⟩ | exact Or.inl ⟨by omega, by omega⟩ | exact Or.inr ⟨by omega, by omega⟩ | decide)
local macro_rules | `(tactic| walk_at "sq") => `(tactic| first | assumption | exact SqL.of (by assumption) | exact SqT.of (by assumption) | (refine L2.Same.seq (by assumption) ?_; walk_at "sq") | (refine L2.Same.seqT (by assumption) ?_; walk_at "sq") | exact Or.inl (by walk_at "sq") | exact Or.inr (by walk_at "sq"))
local macro_rules | `(tactic| walk_at "1") => `(tactic| first
  | refine ⟨_, rfl, iteT ?_⟩
  | refine ⟨_, rfl, iteF ?_⟩
  | refine ⟨_, rfl, ?_⟩
  | refine ⟨_, _, rfl, rfl, (by walk_at "side"), ?_⟩
  | refine ⟨_, _, rfl, rfl, ?_⟩
  | refine ⟨_, _, _, _, true, rfl, .ty _, .base (.int _), kit_ty (a := "int") (by decide +kernel), ?_⟩
  | refine ⟨_, _, _, _, false, rfl, .ty _, .base (.int _), kit_ty (a := "int") (by decide +kernel), ?_⟩
  | refine ⟨_, _, rfl, (by walk_at "sq"), ?_⟩
  | refine ⟨_, _, _, _, rfl, rfl, (by walk_at "sq"), (by first | rfl | assumption), ?_⟩
  | refine Or.inl ⟨_, _, _, _, rfl, rfl, (by walk_at "sq"), (by first | rfl | assumption), ?_⟩
  | refine Or.inr (Or.inl ⟨_, _, _, _, rfl, rfl, (by walk_at "sq"), (by first | rfl | assumption), ?_⟩)
  | refine ⟨_, _, rfl, Or.inl ⟨(by walk_at "sq"), ?_⟩⟩
  | refine ⟨rfl, ?_⟩
  | refine iteT ?_
  | refine iteF ?_
  | refine ⟨_, _, _, _, _, rfl, (by assumption), (by assumption), (by assumption), (by assumption), ?_⟩
  | refine ⟨_, _, _, rfl, (by assumption), rfl, ?_⟩
  | refine Or.inl ⟨_, rfl, ?_⟩
  | refine Or.inr ⟨_, rfl, ?_⟩
  | refine ⟨_, _, rfl, (by walk_at "side"), ?_⟩
  | refine ⟨_, _, rfl, ?_⟩)
local macro_rules | `(tactic| walk_at "fld") => `(tactic| skip)
local macro_rules | `(tactic| walk_at "s") => `(tactic| repeat walk_at "1")
local macro_rules | `(tactic| walk_at "size") => `(tactic| first | exact Nat.le_of_ble_eq_true rfl | (simp only [List.length_map, List.length_append, List.length_cons, List.length_nil]; omega))
local macro_rules | `(tactic| walk_at "new") => `(tactic| (first | refine ⟨(by walk_at "size"), fun p hp => ?_⟩ | refine fun p hp => ?_); (generalize hq : upd _ p _ = H1); (obtain ⟨s, e⟩ := new_facts hp hq); clear hq)

/-- the class of rows lets its attributes be set -/
structure RowCls (K : PySem.W.Frag) (C : Addr) : Prop where
  cl : Cls K C
  nF : NoAttr K C "first"
  nA : NoAttr K C "again"
  nM : NoAttr K C "more"
/-- the class of an error with one argument -/
structure ErrC (P : Program) (w : World) (K : PySem.W.Frag) (mg : Str → Option Value) (base : Heap) (D : Addr) (x at_ : Str) (sp : Sp) : Prop where
  ex : ∃ fI fd, OexC K D ∧ PySem.W.findIn K (.ref D) "__init__" = some (some (.ref fI)) ∧ PySem.W.typeIn K (.ref fI) = some (.type "function") ∧ FnOk P w K mg base CX0 1 fI fd ["self", at_] sp ∧ Binds K fd ["self", at_] [] ∧ mg x = some (.ref D)
/-- a row's attributes -/
def rowF (pf pa : Addr) (m : Int) : List (Str × V) := [("first", .ref pf), ("again", .ref pa), ("more", .int m)]
def RowAt (C : Addr) (H : Hp) (p : Addr) (f a : List (Option Int)) (m : Int) : Prop :=
  ∃ dx pf pa, H p = some (.ins C dx (rowF pf pa m)) ∧ H pf = some (.tup (f.map ov)) ∧ H pa = some (.tup (a.map ov))
theorem _root_.L2.Same.row {C : Addr} {H H' : Hp} {p : Addr} {f a : List (Option Int)} {m : Int} (s : Same H H') (h : RowAt C H p f a m) : RowAt C H' p f a m := by
  obtain ⟨dx, pf, pa, h1, h2, h3⟩ := h
  exact ⟨dx, pf, pa, s _ _ h1, s _ _ h2, s _ _ h3⟩
/-- the least form of a row -/
def MadeOf (f a : List (Option Int)) (m : Int) (f' a' : List (Option Int)) (m' : Int) : Prop :=
  ∃ t b, LeastTurn a m t ∧ ShortF (f ++ a) t (m * t / a.length) f.length b ∧ f' = (f ++ a).take b ∧ a' = ((f ++ a).drop b).take t ∧ m' = m * t / a.length
section
variable {P : Program} {w : World} {K : PySem.W.Frag} {mg : Str → Option Value} {base : Heap} {C D : Addr}
abbrev s_IR_init : Stmt := inClass (topS 3) 0
theorem sc_IR_init : FnScope ["self", "word"] ["self", "word"] (defScope s_IR_init) := ⟨rfl, rfl, rfl, by decide +kernel, rfl, by decide +kernel, by decide +kernel⟩
def spErr (D : Addr) (at_ : Str) : Sp := fun vs H Q _ => ∃ (a : Addr) (y : V), vs = [.ref a, y] ∧ H a = some (exo a D none) ∧ ∀ dx, H dx = none → dx ≠ a → Q .non (upd (upd H dx (exd dx [(at_, y)])) a (exo a D (some dx)))
theorem ok_err {f1 : Addr} {fd : FuncData} (F : Fun K "__init__" "InvalidRow.__init__" s_IR_init f1 fd) (O : OexC K D) (nw : PySem.W.findIn K (.ref D) "word" = some none) : FnOk P w K mg base CX0 1 f1 fd ["self", "word"] (spErr D "word") := by
  refine F.ok sc_IR_init (fun vs H Q E h => ?_) (fun cdv A outer s H vs Q E hr h => ?_)
  · obtain ⟨_, _, rfl, _⟩ := h
    rfl
  · obtain ⟨a, y, rfl, e, k⟩ := h
    refine ⟨_, pss_one (ps_ost (pv 0) (pv 1)), ?_⟩
    exact ⟨_, rfl, _, rfl, a, D, rfl, O, nw, Or.inl ⟨e, fun dx n ne => k dx n ne⟩⟩
abbrev s_IT_init : Stmt := inClass (topS 4) 0
theorem sc_IT_init : FnScope ["self", "at"] ["self", "at"] (defScope s_IT_init) := ⟨rfl, rfl, rfl, by decide +kernel, rfl, by decide +kernel, by decide +kernel⟩
theorem ok_errT {f1 : Addr} {fd : FuncData} (F : Fun K "__init__" "InvalidText.__init__" s_IT_init f1 fd) (O : OexC K D) (nw : PySem.W.findIn K (.ref D) "at" = some none) : FnOk P w K mg base CX0 1 f1 fd ["self", "at"] (spErr D "at") := by
  refine F.ok sc_IT_init (fun vs H Q E h => ?_) (fun cdv A outer s H vs Q E hr h => ?_)
  · obtain ⟨_, _, rfl, _⟩ := h
    rfl
  · obtain ⟨a, y, rfl, e, k⟩ := h
    refine ⟨_, pss_one (ps_ost (pv 0) (pv 1)), ?_⟩
    exact ⟨_, rfl, _, rfl, a, D, rfl, O, nw, Or.inl ⟨e, fun dx n ne => k dx n ne⟩⟩
abbrev s_Row_init : Stmt := inClass (topS 13) 0
theorem sc_Row_init : FnScope ["self", "first", "again", "more", "word", "turn", "grow", "things", "begin"] ["self", "first", "again", "more"] (defScope s_Row_init) := ⟨rfl, rfl, rfl, by decide +kernel, rfl, by decide +kernel, by decide +kernel⟩
/-- a row is made, or the wrong argument told -/
def spInit (C D : Addr) : Sp := fun vs H Q E => ∃ (H0 : Hp) (p dx : Addr) (v1 v2 v3 : V), vs = [.ref p, v1, v2, v3] ∧ H0 p = none ∧ Same H0 H ∧ H p = some (.ins C dx []) ∧
  ((∃ (f a : Arg) (m : El) (w : Str), ArgAt C H0 v1 f ∧ ArgAt C H0 v2 a ∧ ElAt H0 v3 m ∧ wordA f a m = some w ∧ ∀ H' d, Same H0 H' → H' d = some (.xd [("word", .str w)]) → E (.ref D) (some d) H') ∨
  ∃ (aF aA : Addr) (f a : List (Option Int)) (m : Int), v1 = .ref aF ∧ v2 = .ref aA ∧ v3 = .int m ∧ SqH H0 aF (f.map ov) ∧ SqH H0 aA (a.map ov) ∧ wordA (some (f.map some)) (some (a.map some)) (some (some m)) = none ∧ a ≠ [] ∧
    f.length < 500 ∧ a.length < 500 ∧ 0 ≤ m ∧ m < 2 ^ 60 ∧ ∀ H' f' a' m', Same H0 H' → RowAt C H' p f' a' m' → MadeOf f a m f' a' m' → Q .non H')
set_option maxHeartbeats 8000000 in
theorem ok_init {f1 : Addr} {fd : FuncData} (F : FunD K "__init__" "Row.__init__" (defArgs s_Row_init) (defBody s_Row_init) (defScope s_Row_init) [.int 0] [] f1 fd) (R : RowCls K C) (T : Txt mg) (X : ErrC P w K mg base D "InvalidRow" "word" (spErr D "word"))
    (o_wrong_argument : Own P w K mg base "_wrong_argument" 3 ["first", "again", "more"] (spWrong C)) (o_shortest_turn : Own P w K mg base "_shortest_turn" 2 ["again", "more"] spShortT)
    (o_shortest_first : Own P w K mg base "_shortest_first" 2 ["things", "begin", "turn", "grow"] spShortF) : FnOk P w K mg base (L2.CX P w) 4 f1 fd ["self", "first", "again", "more"] (spInit C D) := by
  obtain ⟨fI, fdI, OX, iC, tI, FI, bI, mI⟩ := X.ex
  refine F.ok sc_Row_init (fun vs H Q E h => ?_) (fun cdv A outer s H vs Q E hr h => ?_)
  · obtain ⟨_, _, _, _, _, _, rfl, _⟩ := h
    rfl
  · obtain ⟨H0, p, dx, v1, v2, v3, rfl, hp0, s0, hp, hor⟩ := h
    refine ⟨_, (pss_cons (ps_set (i := 4) sc_Row_init.nd rfl (Or.inl rfl) (pe_own o_wrong_argument (hr.mono (by decide)) (pa_cons (pv 1) (pa_cons (pv 2) (pa_cons (pv 3) pa_nil)))))
  (pss_cons (ps_if (pt_cmpR op_notN (pv 4) pe_non (nomark _))
    (pss_one (ps_raise rfl (takes_of rfl rfl rfl rfl) (pmk_oex OX iC tI FI (hr.mono (by decide)) bI .nil pass0 rfl mI (pa_cons (pv 4) pa_nil))))
    pss_nil)
  (pss_cons (ps_set (i := 5) sc_Row_init.nd rfl (Or.inl rfl) (pe_own o_shortest_turn (hr.mono (by decide)) (pa_cons (pv 2) (pa_cons (pv 3) pa_nil))))
  (pss_cons (ps_set (i := 6) sc_Row_init.nd rfl (Or.inl rfl) (pe_op op_fdiv (pe_op op_mul (pv 3) (pv 5)) (pe_callB call_len_seq (by rfl) T.len PySem.boot_len (pa_cons (pv 2) pa_nil))))
  (pss_cons (ps_set (i := 7) sc_Row_init.nd rfl (Or.inl rfl) (pe_lst (StX.pa_star (pv 1) (StX.pa_star (pv 2) pa_nil))))
  (pss_cons (ps_set (i := 8) sc_Row_init.nd rfl (Or.inl rfl) (pe_own o_shortest_first (hr.mono (by decide)) (pa_cons (pv 7) (pa_cons (pe_callB call_len_seq (by rfl) T.len PySem.boot_len (pa_cons (pv 1) pa_nil)) (pa_cons (pv 5) (pa_cons (pv 6) pa_nil))))))
  (pss_cons (ps_fld (pv 0) (pe_callTy call_tuple_of (by rfl) T.tuple (by decide +kernel) (pa_cons (pe_slice sl_list (pv 7) po_none (po_some (pv 8))) pa_nil)) rfl)
  (pss_cons (ps_fld (pv 0) (pe_callTy call_tuple_of (by rfl) T.tuple (by decide +kernel) (pa_cons (pe_slice sl_list (pv 7) (po_some (pv 8)) (po_some (pe_op op_add (pv 8) (pv 5)))) pa_nil)) rfl)
  (pss_one (ps_fld (pv 0) (pv 6) rfl)))))))))), ?_⟩
    have h1000 : 1000 < sizeLine := small1000 (Nat.le_refl _)
    rcases hor with ⟨f, a, m, w', hF, hA, hM, ew, k⟩ | ⟨aF, aA, f, a, m, rfl, rfl, rfl, hF, hA, ew, ne, lf, la, m0, m1, k⟩
    · refine ⟨_, rfl, _, rfl, _, rfl, ?_⟩
      refine ⟨v1, v2, v3, f, a, m, rfl, hF.same s0, hA.same s0, hM.same s0, fun H1 s1 => ?_⟩
      rw [ew]
      walk_at "s"
      refine ⟨(by show 1 ≤ 1000; decide), fun q nq => ?_⟩
      refine ⟨q, .str w', rfl, upd_same, fun d nd ned => ?_⟩
      have nd1 : H1 d = none := by
        rw [upd_ne ned] at nd
        exact nd
      refine ⟨rfl, d, [("word", .str w')], upd_same, ?_, nd1, ?_⟩
      · rw [upd_ne ned, upd_same]
      · refine k _ d (fun b o e => ?_) upd_same
        have e1 := s1 _ _ (s0 _ _ e)
        have nb : b ≠ d := ne_of_none e1 nd1
        have nq' : b ≠ q := ne_of_none e1 nq
        rw [upd_ne nb, del_ne nq', upd_ne nq', upd_ne nb, upd_ne nq']
        exact e1
    · walk_at "s"
      refine ⟨.ref aF, .ref aA, .int m, _, _, _, rfl, .seq (s0.sqh hF) (els_ov _ _), .seq (s0.sqh hA) (els_ov _ _), .int m, fun H1 s1 => ?_⟩
      rw [ew]
      walk_at "s"
      refine ⟨aA, a, m, rfl, s1.sqh (s0.sqh hA), ne, by omega, m0, m1, fun H2 t s2 ht => ?_⟩
      have t0 := ht.fits.pos
      have t1 := ht.le
      have hA2 : SqH H2 aA (a.map ov) := s2.sqh (s1.sqh (s0.sqh hA))
      have hF2 : SqH H2 aF (f.map ov) := s2.sqh (s1.sqh (s0.sqh hF))
      have hA2s : SqL K H2 aA (a.map ov) ∨ SqT K H2 aA (a.map ov) := hA2.sqs
      have hA2t : SqT K H2 aA (a.map ov) ∨ SqL K H2 aA (a.map ov) := hA2.sqs.symm
      have hF2t : SqT K H2 aF (f.map ov) ∨ SqL K H2 aF (f.map ov) := hF2.sqs.symm
      have hla : ((a.map ov).length : Int) = (a.length : Int) := by rw [List.length_map]
      walk_at "s"
      walk_at "new"
      rename_i pt nt H3 s3 e3
      rw [show f.map ov ++ (a.map ov ++ []) = (f ++ a).map ov by rw [List.append_nil, List.map_append]] at e3
      have hF3 : SqL K H3 aF (f.map ov) ∨ SqT K H3 aF (f.map ov) := (s3.sqh hF2).sqs
      walk_at "s"
      rw [hla, show (f.map ov).length = f.length from List.length_map ..]
      refine ⟨pt, f ++ a, f.length, t, _, rfl, e3, t0, by rw [List.length_append]; omega, fun H4 b s4 hb => ?_⟩
      have hlen : (f ++ a).length = f.length + a.length := List.length_append
      have b0 := hb.le
      have e4 := s4 _ _ e3
      walk_at "s"
      have s04 : Same H0 H4 := s0.trans (s1.trans (s2.trans (s3.trans s4)))
      have hp4 : H4 p = some (.ins C dx []) := s4 _ _ (s3 _ _ (s2 _ _ (s1 _ _ hp)))
      walk_at "new"
      rename_i p5 n5 H5 s5 e5
      rw [cut_to (by rw [List.length_map]; omega), ← List.map_take] at e5
      walk_at "s"
      walk_at "new"
      rename_i p6 n6 H6 s6 e6
      have hp6 : H6 p = some (.ins C dx []) := s6 _ _ (s5 _ _ hp4)
      have d6 : p ≠ p6 := ne_of_none (s5 _ _ hp4) n6
      refine ⟨_, rfl, p, C, dx, [], rfl, hp6, R.cl, R.nF, (by show 0 < 1000; decide), ?_⟩
      generalize hq : upd _ p _ = H7
      obtain ⟨e7, o7⟩ := upd_facts hq
      clear hq
      have dt : pt ≠ p := fun q => by
        rw [q] at e4
        rw [e4] at hp4
        cases hp4
      have e7t : H7 pt = some (.lst ((f ++ a).map ov)) := (o7 _ dt).trans (s6 _ _ (s5 _ _ e4))
      have e7p6 : H7 p6 = some (.tup (((f ++ a).take b).map ov)) := (o7 _ d6.symm).trans e6
      walk_at "s"
      rw [show (b : Int) + (t : Int) = ((b + t : Nat) : Int) by omega]
      walk_at "s"
      walk_at "new"
      rename_i p8 n8 H8 s8 e8
      rw [cut_mid (by rw [List.length_map]; omega) (by omega), Nat.add_sub_cancel_left, ← List.map_drop, ← List.map_take] at e8
      walk_at "s"
      walk_at "new"
      rename_i p9 n9 H9 s9 e9
      have hp9 := s9 _ _ (s8 _ _ e7)
      have d9 : p ≠ p9 := ne_of_none (s8 _ _ e7) n9
      have e9p6 := s9 _ _ (s8 _ _ e7p6)
      refine ⟨_, rfl, p, C, dx, _, rfl, hp9, R.cl, R.nA, (by show 1 < 1000; decide), ?_⟩
      generalize hq : upd _ p _ = H10
      obtain ⟨e10, o10⟩ := upd_facts hq
      clear hq
      refine ⟨_, rfl, _, rfl, p, C, dx, _, rfl, e10, R.cl, R.nM, (by show 2 < 1000; decide), ?_⟩
      generalize hq : upd _ p _ = H11
      obtain ⟨e11, o11⟩ := upd_facts hq
      clear hq
      have np : ∀ c o, H0 c = some o → c ≠ p := fun c o e => ne_of_none e hp0
      refine k H11 ((f ++ a).take b) (((f ++ a).drop b).take t) _ (fun c o e => ?_) ⟨dx, p6, p9, e11, ?_, ?_⟩ ⟨t, b, ht, hb, rfl, rfl, rfl⟩
      · rw [o11 _ (np _ _ e), o10 _ (np _ _ e)]
        refine s9 _ _ (s8 _ _ ?_)
        rw [o7 _ (np _ _ e)]
        exact s6 _ _ (s5 _ _ (s04 _ _ e))
      · rw [o11 _ d6.symm, o10 _ d6.symm]
        exact e9p6
      · rw [o11 _ d9.symm, o10 _ d9.symm]
        exact e9
end
end My

namespace My
open PySem PySem.Spec PyProof.Rows L2
local macro_rules | `(tactic| walk_at "side") => `(tactic| first | (dsimp only; omega) | exact ⟨by omega, by omega⟩ | exact Or.inl ⟨by omega, by omega⟩ | exact Or.inr ⟨by omega, by omega⟩ | decide)
local macro_rules | `(tactic| walk_at "sq") => `(tactic| first | assumption | exact SqL.of (by assumption) | exact SqT.of (by assumption) | (refine L2.Same.seq (by assumption) ?_; walk_at "sq") | (refine L2.Same.seqT (by assumption) ?_; walk_at "sq") | exact Or.inl (by walk_at "sq") | exact Or.inr (by walk_at "sq"))
local macro_rules | `(tactic| walk_at "1") => `(tactic| first
  | refine ⟨_, rfl, iteT ?_⟩
  | refine ⟨_, rfl, iteF ?_⟩
  | refine ⟨_, rfl, ?_⟩
  | refine ⟨_, _, rfl, rfl, (by walk_at "side"), ?_⟩
  | refine ⟨_, _, rfl, rfl, ?_⟩
  | refine ⟨_, _, _, _, true, rfl, .ty _, .base (.int _), kit_ty (a := "int") (by decide +kernel), ?_⟩
  | refine ⟨_, _, _, _, false, rfl, .ty _, .base (.int _), kit_ty (a := "int") (by decide +kernel), ?_⟩
  | refine ⟨_, _, rfl, (by walk_at "sq"), ?_⟩
  | refine ⟨_, _, _, _, rfl, rfl, (by walk_at "sq"), (by first | rfl | assumption), ?_⟩
  | refine Or.inl ⟨_, _, _, _, rfl, rfl, (by walk_at "sq"), (by first | rfl | assumption), ?_⟩
  | refine Or.inr (Or.inl ⟨_, _, _, _, rfl, rfl, (by walk_at "sq"), (by first | rfl | assumption), ?_⟩)
  | refine ⟨_, _, rfl, Or.inl ⟨(by walk_at "sq"), ?_⟩⟩
  | refine ⟨rfl, ?_⟩
  | refine iteT ?_
  | refine iteF ?_
  | refine ⟨_, _, _, _, _, rfl, (by assumption), (by assumption), (by assumption), (by assumption), ?_⟩
  | refine Or.inl ⟨_, rfl, ?_⟩
  | refine Or.inr ⟨_, rfl, ?_⟩
  | refine ⟨_, _, rfl, (by walk_at "side"), ?_⟩
  | refine ⟨_, _, rfl, ?_⟩)
local macro_rules | `(tactic| walk_at "fld") => `(tactic| skip)
local macro_rules | `(tactic| walk_at "s") => `(tactic| repeat walk_at "1")
local macro_rules | `(tactic| walk_at "size") => `(tactic| first | exact Nat.le_of_ble_eq_true rfl | (simp only [List.length_map, List.length_append, List.length_cons, List.length_nil]; omega))
local macro_rules | `(tactic| walk_at "new") => `(tactic| (first | refine ⟨(by walk_at "size"), fun p hp => ?_⟩ | refine fun p hp => ?_); (generalize hq : upd _ p _ = H1); (obtain ⟨s, e⟩ := new_facts hp hq); clear hq)
local macro_rules | `(tactic| walk_at "1") => `(tactic| refine And.intro (by assumption) ?_)

/-- a digit's code -/
def dig (c : Nat) : Bool := decide (48 ≤ c) && decide (c ≤ 57)
/-- whether these signs are a number's without leading zeros, most at most -/
def numL2 (most : Nat) (cs : List Nat) : Bool := decide (1 ≤ cs.length) && decide (cs.length ≤ most) && !(decide (cs.head? = some 48) && decide (1 < cs.length)) && cs.all dig
theorem digits_mem (c : Nat) : decide (c ∈ (("0123456789" : Str)).cps.toList) = dig c := by
  have e : (("0123456789" : Str)).cps.toList = [48, 49, 50, 51, 52, 53, 54, 55, 56, 57] := by decide
  rw [e]
  unfold dig
  by_cases h : 48 ≤ c ∧ c ≤ 57
  · rw [decide_eq_true h.1, decide_eq_true h.2]
    refine decide_eq_true ?_
    simp only [List.mem_cons, List.not_mem_nil, or_false]
    omega
  · rw [decide_eq_false (fun q => h (by
      simp only [List.mem_cons, List.not_mem_nil, or_false] at q
      omega))]
    by_cases h1 : 48 ≤ c
    · rw [decide_eq_true h1, decide_eq_false (fun q => h ⟨h1, q⟩)]
      rfl
    · rw [decide_eq_false h1]
      rfl
theorem sign_eq (c d : Nat) : decide (V.str ⟨#[c]⟩ = V.str ⟨#[d]⟩) = decide (c = d) := by
  by_cases e : c = d
  · subst e
    rw [decide_eq_true rfl, decide_eq_true rfl]
  · rw [decide_eq_false e]
    refine decide_eq_false fun q => e ?_
    have := V.str.inj q
    injection this with h
    have := congrArg Array.toList h
    simpa using this
theorem str_0 : (("0" : Str)) = ⟨#[48]⟩ := by decide
theorem str_m : (("-" : Str)) = ⟨#[45]⟩ := by decide
section
variable {P : Program} {w : World} {K : PySem.W.Frag} {mg : Str → Option Value} {base : Heap}
abbrev s_is_number_word : Stmt := topS 10
theorem sc_is_number_word : FnScope ["word", "most", "letter"] ["word", "most"] (defScope s_is_number_word) := ⟨rfl, rfl, rfl, by decide +kernel, rfl, by decide +kernel, by decide +kernel⟩
def spNumWord : Sp := fun vs H Q _ => ∃ (x : Str) (n : Nat), vs = [.str x, .int n] ∧ x.length ≤ 10000 ∧ ∀ H', Same H H' → Q (.bl (numL2 n x.cps.toList)) H'
theorem ok_is_number_word (D : Df K mg "is_number_word" s_is_number_word ["word", "most"]) (T : Txt mg) (gD : ∃ t, mg "DIGITS" = some (.str "0123456789" t)) : Own P w K mg base "is_number_word" 1 ["word", "most"] spNumWord := by
  obtain ⟨tD, gD⟩ := gD
  refine D.own sc_is_number_word (fun vs H Q E h => ?_) (fun fa cdv A outer s H vs Q E hr h => ?_)
  · obtain ⟨_, _, rfl, _⟩ := h
    rfl
  · obtain ⟨x, n, rfl, hl, k⟩ := h
    have h10 : 10000 ≤ sizeLine := by decide
    refine ⟨_, (C8.pss_cut (ps_if (PW.pt (pw_or (pt_not (pt_chain op_le op_le pe_int (pe_callB call_len_str (by rfl) T.len PySem.boot_len (pa_cons (pv 0) pa_nil)) (pv 1))) (pw_or1 (PW.pt (pw_and (pt_cmpR op_eq (pe_ix ix_str (pv 0) pe_int (fun _ _ => rfl)) pe_str (nomark _)) (pw_and1 (pt_cmpR op_gt (pe_callB call_len_str (by rfl) T.len PySem.boot_len (pa_cons (pv 0) pa_nil)) pe_int (nomark _))))))))
    (pss_one (ps_ret pe_bl))
    pss_nil)
  (pss_one (ps_ret (pe_callB (cr_all rfl) (by rfl) T.all (by decide +kernel) (pa_cons (pe_lc (own := [("letter", 2)]) (g := gName 2) (tt := tYes) rfl sc_is_number_word.nd (pi_str (pv 0)) (blkOk_by (own := [("letter", 2)]) (N := ["word", "most", "letter"]) (sc := defScope s_is_number_word) (by decide +kernel)) (fun _ _ _ _ _ => (pg_name (i := 2) sc_is_number_word.nd rfl (Or.inl rfl))) (fun _ _ _ _ _ => pts_nil) (fun _ _ _ _ _ => (pe_cmpR op_in_sign (pv 2) (pe_glob (v := .str "0123456789") rfl gD ⟨tD, rfl⟩) (by rfl)))) pa_nil))))), ?_⟩
    have hle : x.length ≤ sizeLine := by omega
    have hxl : x.cps.toList.length = x.length := by
      rw [Array.length_toList]
      rfl
    generalize hcs : x.cps.toList = cs at hxl k
    have hc0 : 1 ≤ cs.length → atI cs 0 = some (cs.headD 0) := fun h => by
      cases cs with
      | nil => simp at h
      | cons c r => exact atI_nat (j := 0) rfl
    have bad : ∀ H', Same H H' → numL2 n cs = false → Q (.bl false) H' := fun H' s e => by
      have := k H' s
      rw [e] at this
      exact this
    refine ⟨fun σ' H' => σ' = [some (.str x), some (.int n), none] ∧ H' = H ∧ numL2 n cs = cs.all dig, ?_, ?_⟩
    · walk_at "s"
      by_cases h1 : 1 ≤ cs.length
      · have h1' : decide ((1 : Int) ≤ (x.length : Int)) = true := decide_eq_true (by omega)
        rw [h1']
        walk_at "s"
        by_cases h2 : cs.length ≤ n
        · have h2' : decide ((x.length : Int) ≤ (n : Int)) = true := decide_eq_true (by omega)
          rw [h2']
          have hat := hc0 h1
          walk_at "s"
          refine ⟨x, 0, cs.headD 0, rfl, rfl, hle, by rw [hcs]; exact hat, ?_⟩
          walk_at "s"
          rw [str_0, sign_eq]
          by_cases h3 : cs.headD 0 = 48 ∧ 1 < cs.length
          · rw [decide_eq_true h3.1]
            walk_at "s"
            rw [decide_eq_true (show (1 : Int) < (x.length : Int) by omega)]
            walk_at "s"
            refine bad _ (Same.refl _) ?_
            unfold numL2
            have h4 : cs.head? = some 48 := by
              cases cs with
              | nil => simp at h1
              | cons c r => exact congrArg some h3.1
            rw [decide_eq_true h4, decide_eq_true h3.2]
            simp
          · have h4 : numL2 n cs = cs.all dig := by
              unfold numL2
              rw [decide_eq_true h1, decide_eq_true h2]
              have : (decide (cs.head? = some 48) && decide (1 < cs.length)) = false := by
                by_cases h5 : cs.head? = some 48
                · rw [decide_eq_true h5]
                  refine decide_eq_false fun q => h3 ⟨?_, q⟩
                  cases cs with
                  | nil => cases h5
                  | cons c r => exact Option.some.inj h5
                · rw [decide_eq_false h5]
                  rfl
              rw [this]
              rfl
            by_cases h5 : cs.headD 0 = 48
            · rw [decide_eq_true h5]
              walk_at "s"
              rw [decide_eq_false (show ¬ (1 : Int) < (x.length : Int) from fun q => h3 ⟨h5, by omega⟩)]
              walk_at "s"
              exact h4
            · rw [decide_eq_false h5]
              walk_at "s"
              exact h4
        · have h2' : decide ((x.length : Int) ≤ (n : Int)) = false := decide_eq_false (by omega)
          rw [h2']
          walk_at "s"
          refine bad _ (Same.refl _) ?_
          unfold numL2
          rw [decide_eq_true h1, decide_eq_false h2]
          rfl
      · have h1' : decide ((1 : Int) ≤ (x.length : Int)) = false := decide_eq_false (by omega)
        rw [h1']
        walk_at "s"
        refine bad _ (Same.refl _) ?_
        unfold numL2
        rw [decide_eq_false h1]
        rfl
    · rintro σ' H' ⟨rfl, rfl, h4⟩
      rw [h4] at k
      refine ⟨_, rfl, x, rfl, fun L nL => lc_it walk_str (LcP H' L fun i => (cs[i]?).map fun c => V.bl (dig c)) (LcP.zero nL) (fun _ _ _ _ => trivial) ?_ ?_⟩
      · rintro i y H1 H2 hi p ⟨rfl, c, hc, rfl⟩
        have hc' : cs[i]? = some c := by
          rw [← hcs]
          simpa using hc
        walk_at "s"
        rw [digits_mem]
        exact p.yes (Same.refl _) nL (by have : cs.length ≤ 10000 := by omega
                                         have : i < cs.length := (List.getElem?_eq_some_iff.mp hc').1
                                         omega) (by rw [hc']; rfl)
      · intro H1 p
        have e := p.lst
        have hsz : x.cps.size = cs.length := by rw [← hcs]; exact (Array.length_toList).symm
        rw [hsz, fm_get] at e
        refine ⟨L, cs.map dig, rfl, SqL.of (by rw [e, List.map_map]; rfl), ?_⟩
        have : (cs.map dig).all id = cs.all dig := by rw [List.all_map]; rfl
        rw [this]
        exact k _ p.same
end
end My

namespace My
open PySem PySem.Spec PyProof.Rows L2
local macro_rules | `(tactic| walk_at "side") => `(tactic| first | (dsimp only; omega) | exact ⟨by omega, by omega⟩ | exact Or.inl ⟨by omega, by omega⟩ | exact Or.inr ⟨by omega, by omega⟩ | decide)
local macro_rules | `(tactic| walk_at "sq") => `(tactic| first | assumption | exact SqL.of (by assumption) | exact SqT.of (by assumption) | (refine L2.Same.seq (by assumption) ?_; walk_at "sq") | (refine L2.Same.seqT (by assumption) ?_; walk_at "sq") | exact Or.inl (by walk_at "sq") | exact Or.inr (by walk_at "sq"))
local macro_rules | `(tactic| walk_at "1") => `(tactic| first
  | refine ⟨_, rfl, iteT ?_⟩
  | refine ⟨_, rfl, iteF ?_⟩
  | refine ⟨_, rfl, ?_⟩
  | refine ⟨_, _, rfl, rfl, (by walk_at "side"), ?_⟩
  | refine ⟨_, _, rfl, rfl, ?_⟩
  | refine ⟨_, _, _, _, true, rfl, .ty _, .base (.int _), kit_ty (a := "int") (by decide +kernel), ?_⟩
  | refine ⟨_, _, _, _, false, rfl, .ty _, .base (.int _), kit_ty (a := "int") (by decide +kernel), ?_⟩
  | refine ⟨_, _, rfl, (by walk_at "sq"), ?_⟩
  | refine ⟨_, _, _, _, rfl, rfl, (by walk_at "sq"), (by first | rfl | assumption), ?_⟩
  | refine Or.inl ⟨_, _, _, _, rfl, rfl, (by walk_at "sq"), (by first | rfl | assumption), ?_⟩
  | refine Or.inr (Or.inl ⟨_, _, _, _, rfl, rfl, (by walk_at "sq"), (by first | rfl | assumption), ?_⟩)
  | refine ⟨_, _, rfl, Or.inl ⟨(by walk_at "sq"), ?_⟩⟩
  | refine ⟨rfl, ?_⟩
  | refine iteT ?_
  | refine iteF ?_
  | refine ⟨_, _, _, _, _, rfl, (by assumption), (by assumption), (by assumption), (by assumption), ?_⟩
  | refine Or.inl ⟨_, rfl, ?_⟩
  | refine Or.inr ⟨_, rfl, ?_⟩
  | refine ⟨_, _, rfl, (by walk_at "side"), ?_⟩
  | refine ⟨_, _, rfl, ?_⟩)
local macro_rules | `(tactic| walk_at "fld") => `(tactic| skip)
local macro_rules | `(tactic| walk_at "s") => `(tactic| repeat walk_at "1")
local macro_rules | `(tactic| walk_at "size") => `(tactic| first | exact Nat.le_of_ble_eq_true rfl | (simp only [List.length_map, List.length_append, List.length_cons, List.length_nil]; omega))
local macro_rules | `(tactic| walk_at "new") => `(tactic| (first | refine ⟨(by walk_at "size"), fun p hp => ?_⟩ | refine fun p hp => ?_); (generalize hq : upd _ p _ = H1); (obtain ⟨s, e⟩ := new_facts hp hq); clear hq)
local macro_rules | `(tactic| walk_at "1") => `(tactic| refine And.intro (by assumption) ?_)

open TL
theorem starts_m (x : Str) : Txt.startswith x "-" = decide (x.cps.toList.head? = some 45) := by
  unfold Txt.startswith
  rw [PySem.StrLaws.subAt_eq, str_m]
  have hl : x.length = x.cps.toList.length := by rw [Array.length_toList]; rfl
  rw [hl]
  generalize x.cps.toList = cs
  show (decide (0 + 1 ≤ cs.length) && ((cs.drop 0).take 1 == [45])) = _
  cases cs with
  | nil => decide
  | cons c r =>
    rw [List.drop_zero, List.head?_cons]
    show (decide (0 + 1 ≤ (c :: r).length) && ([c] == [45])) = _
    rw [decide_eq_true (by simp)]
    by_cases e : c = 45
    · subst e
      decide
    · rw [decide_eq_false (fun q => e (Option.some.inj q)), Bool.true_and]
      exact beq_eq_false_iff_ne.mpr (fun q => e (by simpa using q))
theorem str_eqL (x : Str) (l : List Nat) : decide (V.str x = V.str ⟨l.toArray⟩) = decide (x.cps.toList = l) := by
  by_cases e : x.cps.toList = l
  · rw [decide_eq_true e]
    refine decide_eq_true (congrArg V.str (ext_tl ?_))
    show x.cps.toList = l.toArray.toList
    rw [e]
  · rw [decide_eq_false e]
    refine decide_eq_false fun q => e ?_
    have := V.str.inj q
    rw [this]
theorem lit_m0 : (("-0" : Str)) = ⟨[45, 48].toArray⟩ := by decide
theorem lit_m : (("-" : Str)) = ⟨[45].toArray⟩ := by decide
theorem lit_0 : (("0" : Str)) = ⟨[48].toArray⟩ := by decide
theorem cut_1 (x : Str) : (cutS x (some 1) none).cps.toList = x.cps.toList.drop 1 := by
  have hl : x.length = x.cps.toList.length := by rw [Array.length_toList]; rfl
  show ((x.cps.toList.drop (HT.sIx x.length 0 (some ((1 : Nat) : Int)))).take (HT.sIx x.length x.length none - HT.sIx x.length 0 (some ((1 : Nat) : Int)))) = _
  rw [HT.sIx_nat, HT.sIx_none, hl]
  generalize x.cps.toList = cs
  cases cs with
  | nil => rfl
  | cons c r =>
    rw [Nat.min_eq_left (by simp)]
    exact List.take_of_length_le (by simp)
theorem cut_01 (x : Str) : (cutS x none (some 1)).cps.toList = x.cps.toList.take 1 := by
  have hl : x.length = x.cps.toList.length := by rw [Array.length_toList]; rfl
  show ((x.cps.toList.drop (HT.sIx x.length 0 none)).take (HT.sIx x.length x.length (some ((1 : Nat) : Int)) - HT.sIx x.length 0 none)) = _
  rw [HT.sIx_nat, HT.sIx_none, hl]
  generalize x.cps.toList = cs
  cases cs with
  | nil => rfl
  | cons c r =>
    rw [Nat.min_eq_left (by simp)]
    rfl
/-- whether these signs are a time's or nothing's -/
def thingL (cs : List Nat) : Bool := if cs.head? = some 45 ∧ cs ≠ [45, 48] then decide (cs = [45]) || numL2 12 (cs.drop 1) else numL2 12 cs
section
variable {P : Program} {w : World} {K : PySem.W.Frag} {mg : Str → Option Value} {base : Heap}
abbrev s_is_thing_word : Stmt := topS 21
theorem sc_is_thing_word : FnScope ["word"] ["word"] (defScope s_is_thing_word) := ⟨rfl, rfl, rfl, by decide +kernel, rfl, by decide +kernel, by decide +kernel⟩
def spThingWord : Sp := fun vs H Q _ => ∃ (x : Str), vs = [.str x] ∧ x.length ≤ 10000 ∧ ∀ H', Same H H' → Q (.bl (thingL x.cps.toList)) H'
theorem ok_is_thing_word (D : Df K mg "_is_thing_word" s_is_thing_word ["word"]) (gM : ∃ t, mg "MOST_DIGITS" = some (.int 12 t)) (o_is_number_word : Own P w K mg base "is_number_word" 1 ["word", "most"] spNumWord) : Own P w K mg base "_is_thing_word" 2 ["word"] spThingWord := by
  obtain ⟨tM, gM⟩ := gM
  refine D.own sc_is_thing_word (fun vs H Q E h => ?_) (fun fa cdv A outer s H vs Q E hr h => ?_)
  · obtain ⟨_, rfl, _⟩ := h
    rfl
  · obtain ⟨x, rfl, hl, k⟩ := h
    have h10 : 10000 ≤ sizeLine := by decide
    have hle : x.length ≤ sizeLine := by omega
    refine ⟨_, (pss_cons (ps_if (PW.pt (pw_and (pt_val (pe_m1 PySem.F.slot_str_startswith PySem.F.type_str_startswith mt_startswith (pv 0) pe_str)) (pw_and1 (pt_cmpR op_ne (pv 0) pe_str (nomark _)))))
    (pss_one (ps_ret (pe_or (pe_cmpR op_eq (pv 0) pe_str (nomark _)) (pe_one (pe_own o_is_number_word (hr.mono (by decide)) (pa_cons (pe_slice sl_str (pv 0) (po_some pe_int) po_none) (pa_cons (pe_glob (v := .int 12) rfl gM ⟨tM, rfl⟩) pa_nil)))))))
    pss_nil)
  (pss_one (ps_ret (pe_own o_is_number_word (hr.mono (by decide)) (pa_cons (pv 0) (pa_cons (pe_glob (v := .int 12) rfl gM ⟨tM, rfl⟩) pa_nil)))))), ?_⟩
    refine ⟨_, rfl, ⟨x, rfl⟩, x, "-", rfl, rfl, ?_⟩
    rw [starts_m]
    by_cases h1 : x.cps.toList.head? = some 45
    · rw [decide_eq_true h1]
      walk_at "s"
      rw [lit_m0, str_eqL]
      by_cases h2 : x.cps.toList = [45, 48]
      · rw [decide_eq_true h2]
        walk_at "s"
        refine fun H' s' => ?_
        have : thingL x.cps.toList = numL2 12 x.cps.toList := if_neg (fun q => q.2 h2)
        rw [← this]
        exact k _ s'
      · rw [decide_eq_false h2]
        have ht : thingL x.cps.toList = (decide (x.cps.toList = [45]) || numL2 12 (x.cps.toList.drop 1)) := if_pos ⟨h1, h2⟩
        rw [ht] at k
        walk_at "s"
        rw [lit_m, str_eqL]
        by_cases h3 : x.cps.toList = [45]
        · rw [decide_eq_true h3] at k ⊢
          walk_at "s"
          exact k _ (Same.refl _)
        · rw [decide_eq_false h3] at k ⊢
          walk_at "s"
          refine ⟨Nat.le_trans (cutS_length _ _ _) hl, fun H' s' => ?_⟩
          rw [cut_1]
          exact k _ s'
    · rw [decide_eq_false h1]
      walk_at "s"
      refine fun H' s' => ?_
      have : thingL x.cps.toList = numL2 12 x.cps.toList := if_neg (fun q => h1 q.1)
      rw [← this]
      exact k _ s'
end
end My

namespace My
open PySem PySem.Spec PyProof.Rows L2
local macro_rules | `(tactic| walk_at "side") => `(tactic| first | (dsimp only; omega) | exact ⟨by omega, by omega⟩ | exact Or.inl ⟨by omega, by omega⟩ | exact Or.inr ⟨by omega, by omega⟩ | decide)
local macro_rules | `(tactic| walk_at "sq") => `(tactic| first | assumption | exact SqL.of (by assumption) | exact SqT.of (by assumption) | (refine L2.Same.seq (by assumption) ?_; walk_at "sq") | (refine L2.Same.seqT (by assumption) ?_; walk_at "sq") | exact Or.inl (by walk_at "sq") | exact Or.inr (by walk_at "sq"))
local macro_rules | `(tactic| walk_at "1") => `(tactic| first
  | refine ⟨_, rfl, iteT ?_⟩
  | refine ⟨_, rfl, iteF ?_⟩
  | refine ⟨_, rfl, ?_⟩
  | refine ⟨_, _, rfl, rfl, (by walk_at "side"), ?_⟩
  | refine ⟨_, _, rfl, rfl, ?_⟩
  | refine ⟨_, _, _, _, true, rfl, .ty _, .base (.int _), kit_ty (a := "int") (by decide +kernel), ?_⟩
  | refine ⟨_, _, _, _, false, rfl, .ty _, .base (.int _), kit_ty (a := "int") (by decide +kernel), ?_⟩
  | refine ⟨_, _, rfl, (by walk_at "sq"), ?_⟩
  | refine ⟨_, _, _, _, rfl, rfl, (by walk_at "sq"), (by first | rfl | assumption), ?_⟩
  | refine Or.inl ⟨_, _, _, _, rfl, rfl, (by walk_at "sq"), (by first | rfl | assumption), ?_⟩
  | refine Or.inr (Or.inl ⟨_, _, _, _, rfl, rfl, (by walk_at "sq"), (by first | rfl | assumption), ?_⟩)
  | refine ⟨_, _, rfl, Or.inl ⟨(by walk_at "sq"), ?_⟩⟩
  | refine ⟨rfl, ?_⟩
  | refine iteT ?_
  | refine iteF ?_
  | refine ⟨_, _, _, _, _, rfl, (by assumption), (by assumption), (by assumption), (by assumption), ?_⟩
  | refine Or.inl ⟨_, rfl, ?_⟩
  | refine Or.inr ⟨_, rfl, ?_⟩
  | refine ⟨_, _, rfl, (by walk_at "side"), ?_⟩
  | refine ⟨_, _, rfl, ?_⟩)
local macro_rules | `(tactic| walk_at "fld") => `(tactic| skip)
local macro_rules | `(tactic| walk_at "s") => `(tactic| repeat walk_at "1")
local macro_rules | `(tactic| walk_at "size") => `(tactic| first | exact Nat.le_of_ble_eq_true rfl | (simp only [List.length_map, List.length_append, List.length_cons, List.length_nil]; omega))
local macro_rules | `(tactic| walk_at "new") => `(tactic| (first | refine ⟨(by walk_at "size"), fun p hp => ?_⟩ | refine fun p hp => ?_); (generalize hq : upd _ p _ = H1); (obtain ⟨s, e⟩ := new_facts hp hq); clear hq)
local macro_rules | `(tactic| walk_at "1") => `(tactic| refine And.intro (by assumption) ?_)

open TL
/-! ### lists of texts as data -/
theorem dpAll_str {K : PySem.W.Frag} {H : Hp} : ∀ xs : List Str, DpAll K H (xs.map V.str) (xs.map PyData.str)
  | [] => .nil
  | x :: r => .cons (.str x) (dpAll_str r)
theorem canLay_str : ∀ xs : List Str, (∀ x ∈ xs, PyData.strOk x = true) → PyData.canLayAll0 (xs.map PyData.str) = true
  | [], _ => rfl
  | x :: r, h => by
    show (PyData.strOk x && PyData.canLayAll0 (r.map PyData.str)) = true
    rw [h x (List.mem_cons_self ..), canLay_str r (fun y hy => h y (List.mem_cons_of_mem _ hy))]
    rfl
theorem depth_str : ∀ xs : List Str, PyData.depthAll (xs.map PyData.str) = 0
  | [] => rfl
  | x :: r => by
    show max 0 (PyData.depthAll (r.map PyData.str)) = 0
    rw [depth_str r]; rfl
theorem shaped_strs (xs : List Str) (h : ∀ x ∈ xs, PyData.strOk x = true) : SeqAt.shaped (.list (xs.map PyData.str)) = true := by
  show (PyData.canLayAll0 (xs.map PyData.str) && decide (PyData.depthAll (xs.map PyData.str) + 1 ≤ 64)) = true
  rw [canLay_str xs h, depth_str]; rfl
theorem rd_neNil {K : PySem.W.Frag} {H : Hp} {Q : VK} {p q : Addr} (xs : List Str) (hx : ∀ x ∈ xs, PyData.strOk x = true) (h1 : SqL K H p (xs.map V.str)) (h2 : SqL K H q []) (k : Q (.bl (!decide (xs = []))) H) : rNeD K (.ref p) (.ref q) H Q :=
  ⟨_, _, .lst h1 (dpAll_str xs), .lst h2 .nil, shaped_strs xs hx, shaped_strs [] (fun _ h => nomatch h), by
    have e : PyData.eqv (.list (xs.map PyData.str)) (.list []) = decide (xs = []) := by
      cases xs with
      | nil => rfl
      | cons x r => rfl
    rw [e]
    exact k⟩
/-- the law's own look at a number's signs -/
def figL (cs : List Nat) : List Nat := if cs.take 1 = [45] then cs.drop 1 else cs
def intL (cs : List Nat) : Bool := decide (0 < (figL cs).length) && decide ((figL cs).length < 13) && (figL cs).all dig && (decide (figL cs = [48]) && decide (cs = [48]) || !decide ((figL cs).headD 0 = 48))
theorem numL2_iff (m : Nat) (cs : List Nat) : numL2 m cs = true ↔ 1 ≤ cs.length ∧ cs.length ≤ m ∧ ¬ (cs.head? = some 48 ∧ 1 < cs.length) ∧ cs.all dig = true := by
  unfold numL2
  rw [Bool.and_eq_true, Bool.and_eq_true, Bool.and_eq_true, Bool.not_eq_true', Bool.and_eq_false_iff, decide_eq_true_eq, decide_eq_true_eq, decide_eq_false_iff_not, decide_eq_false_iff_not]
  constructor
  · rintro ⟨⟨⟨a, b⟩, c⟩, d⟩
    exact ⟨a, b, fun q => c.elim (fun x => x q.1) (fun x => x q.2), d⟩
  · rintro ⟨a, b, c, d⟩
    refine ⟨⟨⟨a, b⟩, ?_⟩, d⟩
    by_cases h : cs.head? = some 48
    · exact Or.inr fun q => c ⟨h, q⟩
    · exact Or.inl h
theorem intL_iff (cs : List Nat) : intL cs = true ↔ 0 < (figL cs).length ∧ (figL cs).length < 13 ∧ (figL cs).all dig = true ∧ (figL cs = [48] ∧ cs = [48] ∨ (figL cs).headD 0 ≠ 48) := by
  unfold intL
  rw [Bool.and_eq_true, Bool.and_eq_true, Bool.and_eq_true, Bool.or_eq_true, Bool.and_eq_true, Bool.not_eq_true', decide_eq_true_eq, decide_eq_true_eq, decide_eq_true_eq, decide_eq_true_eq, decide_eq_false_iff_not]
  exact ⟨fun ⟨⟨⟨a, b⟩, c⟩, d⟩ => ⟨a, b, c, d⟩, fun ⟨a, b, c, d⟩ => ⟨⟨⟨a, b⟩, c⟩, d⟩⟩
theorem num12 (c : Nat) (r : List Nat) : numL2 12 (c :: r) = true ↔ r.length + 1 < 13 ∧ (c :: r).all dig = true ∧ (r = [] ∨ c ≠ 48) := by
  rw [numL2_iff, List.length_cons, List.head?_cons]
  constructor
  · rintro ⟨_, h2, h3, h4⟩
    refine ⟨by omega, h4, ?_⟩
    by_cases e : c = 48
    · cases r with
      | nil => exact Or.inl rfl
      | cons d r => exact absurd ⟨congrArg some e, by rw [List.length_cons]; omega⟩ h3
    · exact Or.inr e
  · rintro ⟨h2, h4, h5⟩
    refine ⟨by omega, by omega, ?_, h4⟩
    rintro ⟨q1, q2⟩
    rcases h5 with rfl | h5
    · exact absurd q2 (by decide)
    · exact h5 (Option.some.inj q1)
theorem intL_thing (cs : List Nat) : intL cs = (!decide (cs = [45]) && thingL cs) := by
  cases cs with
  | nil => decide
  | cons c r =>
    by_cases hc : c = 45
    · subst hc
      have hf : figL (45 :: r) = r := if_pos (by simp)
      cases r with
      | nil => decide
      | cons d r =>
        have h45 : numL2 12 (45 :: d :: r) = false := by
          refine Bool.eq_false_iff.mpr fun q => ?_
          have := ((num12 _ _).mp q).2.1
          rw [List.all_cons] at this
          exact absurd this (by simp [dig])
        by_cases h2 : (45 :: d :: r) = [45, 48]
        · injection h2 with _ h2
          rw [h2]
          decide
        · have ht : thingL (45 :: d :: r) = (decide ((45 :: d :: r) = [45]) || numL2 12 (d :: r)) := if_pos ⟨rfl, h2⟩
          rw [ht, decide_eq_false (show ¬ (45 :: d :: r) = [45] by simp), Bool.not_false, Bool.true_and, Bool.false_or, Bool.eq_iff_iff, num12, intL_iff, hf, List.length_cons, List.headD_cons]
          constructor
          · rintro ⟨_, a, b, c⟩
            refine ⟨a, b, Or.inr ?_⟩
            rcases c with ⟨_, c⟩ | c
            · exact absurd c (by simp)
            · exact c
          · rintro ⟨a, b, c⟩
            refine ⟨by omega, a, b, Or.inr ?_⟩
            rcases c with rfl | c
            · exact fun q => h2 (by rw [q])
            · exact c
    · have hf : figL (c :: r) = c :: r := if_neg (by simp [hc])
      have ht : thingL (c :: r) = numL2 12 (c :: r) := if_neg (fun q => hc (Option.some.inj q.1))
      rw [ht, decide_eq_false (show ¬ (c :: r) = [45] from fun q => hc (List.cons.inj q).1), Bool.not_false, Bool.true_and, Bool.eq_iff_iff, num12, intL_iff, hf, List.length_cons, List.headD_cons]
      constructor
      · rintro ⟨_, a, b, c⟩
        refine ⟨a, b, ?_⟩
        rcases c with ⟨c, _⟩ | c
        · exact Or.inl (List.cons.inj c).2
        · exact Or.inr c
      · rintro ⟨a, b, c'⟩
        refine ⟨by omega, a, b, ?_⟩
        by_cases e : c = 48
        · rcases c' with rfl | c'
          · subst e
            exact Or.inl ⟨rfl, rfl⟩
          · exact absurd e c'
        · exact Or.inr e
end My

namespace My
open PySem PySem.Spec PyProof.Rows L2
local macro_rules | `(tactic| walk_at "side") => `(tactic| first | (dsimp only; omega) | exact ⟨by omega, by omega⟩ | exact Or.inl ⟨by omega, by omega⟩ | exact Or.inr ⟨by omega, by omega⟩ | decide)
local macro_rules | `(tactic| walk_at "sq") => `(tactic| first | assumption | exact SqL.of (by assumption) | exact SqT.of (by assumption) | (refine L2.Same.seq (by assumption) ?_; walk_at "sq") | (refine L2.Same.seqT (by assumption) ?_; walk_at "sq") | exact Or.inl (by walk_at "sq") | exact Or.inr (by walk_at "sq"))
local macro_rules | `(tactic| walk_at "1") => `(tactic| first
  | refine ⟨_, rfl, iteT ?_⟩
  | refine ⟨_, rfl, iteF ?_⟩
  | refine ⟨_, rfl, ?_⟩
  | refine ⟨_, _, rfl, rfl, (by walk_at "side"), ?_⟩
  | refine ⟨_, _, rfl, rfl, ?_⟩
  | refine ⟨_, _, _, _, true, rfl, .ty _, .base (.int _), kit_ty (a := "int") (by decide +kernel), ?_⟩
  | refine ⟨_, _, _, _, false, rfl, .ty _, .base (.int _), kit_ty (a := "int") (by decide +kernel), ?_⟩
  | refine ⟨_, _, rfl, (by walk_at "sq"), ?_⟩
  | refine ⟨_, _, _, _, rfl, rfl, (by walk_at "sq"), (by first | rfl | assumption), ?_⟩
  | refine Or.inl ⟨_, _, _, _, rfl, rfl, (by walk_at "sq"), (by first | rfl | assumption), ?_⟩
  | refine Or.inr (Or.inl ⟨_, _, _, _, rfl, rfl, (by walk_at "sq"), (by first | rfl | assumption), ?_⟩)
  | refine ⟨_, _, rfl, Or.inl ⟨(by walk_at "sq"), ?_⟩⟩
  | refine ⟨rfl, ?_⟩
  | refine iteT ?_
  | refine iteF ?_
  | refine ⟨_, _, _, _, _, rfl, (by assumption), (by assumption), (by assumption), (by assumption), ?_⟩
  | refine Or.inl ⟨_, rfl, ?_⟩
  | refine Or.inr ⟨_, rfl, ?_⟩
  | refine ⟨_, _, rfl, (by walk_at "side"), ?_⟩
  | refine ⟨_, _, rfl, ?_⟩)
local macro_rules | `(tactic| walk_at "fld") => `(tactic| skip)
local macro_rules | `(tactic| walk_at "s") => `(tactic| repeat walk_at "1")
local macro_rules | `(tactic| walk_at "size") => `(tactic| first | exact Nat.le_of_ble_eq_true rfl | (simp only [List.length_map, List.length_append, List.length_cons, List.length_nil]; omega))
local macro_rules | `(tactic| walk_at "new") => `(tactic| (first | refine ⟨(by walk_at "size"), fun p hp => ?_⟩ | refine fun p hp => ?_); (generalize hq : upd _ p _ = H1); (obtain ⟨s, e⟩ := new_facts hp hq); clear hq)
local macro_rules | `(tactic| walk_at "1") => `(tactic| refine And.intro (by assumption) ?_)

open TL
/-! ### words of texts -/
abbrev wcs (w : Str) : List Nat := w.cps.toList
theorem str_eq (x y : Str) : decide (V.str x = V.str y) = decide (x = y) := by
  by_cases e : x = y
  · rw [e, decide_eq_true rfl, decide_eq_true rfl]
  · rw [decide_eq_false e]
    exact decide_eq_false fun q => e (V.str.inj q)
theorem len_cs (w : Str) : w.length = (wcs w).length := by rw [Array.length_toList]; rfl
theorem all_digits {cs : List Nat} (h : cs.all dig = true) : NumText.AllDigits cs := fun c hc => by
  have := List.all_eq_true.mp h c hc
  unfold dig at this
  rw [Bool.and_eq_true, decide_eq_true_eq, decide_eq_true_eq] at this
  omega
theorem val_lt : ∀ (cs : List Nat), NumText.AllDigits cs → NumText.digitsVal cs < 10 ^ cs.length := by
  intro cs
  generalize hn : cs.length = n
  induction n generalizing cs with
  | zero =>
    intro _
    rw [List.length_eq_zero_iff.mp hn]
    decide
  | succ n ih =>
    intro h
    obtain ⟨ds, c, rfl⟩ : ∃ ds c, cs = ds ++ [c] := ⟨cs.dropLast, cs.getLast (by rintro rfl; simp at hn), (List.dropLast_concat_getLast _).symm⟩
    rw [NumText.digitsVal_snoc]
    have h1 := ih ds (by simpa using hn) (fun x hx => h x (List.mem_append_left _ hx))
    have h2 := h c (List.mem_append_right _ (List.mem_singleton.mpr rfl))
    rw [Nat.pow_succ]
    omega
theorem int_of_num {w : Str} (h : numL2 12 (wcs w) = true) : ∃ n : Nat, intText? w = some (n : Int) ∧ n < 10 ^ 12 := by
  obtain ⟨h1, h2, _, h4⟩ := (numL2_iff _ _).mp h
  have hd := all_digits h4
  refine ⟨NumText.digitsVal (wcs w), intText_digits hd (fun e => absurd h1 (by rw [show wcs w = [] from e]; decide)) (by rw [len_cs]; omega), ?_⟩
  have := val_lt _ hd
  exact Nat.lt_of_lt_of_le this (Nat.pow_le_pow_right (by decide) h2)
theorem len_of_num {w : Str} {m : Nat} (h : numL2 m (wcs w) = true) : w.length ≤ m := by
  have := ((numL2_iff _ _).mp h).2.1
  rw [len_cs]
  exact this
theorem lit_cs_m : wcs ("-" : Str) = [45] := by decide
theorem eq_m {w : Str} : w = "-" ↔ wcs w = [45] := ⟨fun e => by rw [e]; decide, fun e => ext_tl (e.trans lit_cs_m.symm)⟩
theorem int_of_thing {w : Str} (h : thingL (wcs w) = true) (ne : w ≠ "-") : ∃ n : Int, intText? w = some n := by
  unfold thingL at h
  by_cases c : (wcs w).head? = some 45 ∧ wcs w ≠ [45, 48]
  · rw [if_pos c, Bool.or_eq_true, decide_eq_true_eq] at h
    rcases h with h | h
    · exact absurd (eq_m.mpr h) ne
    · obtain ⟨h1, h2, _, h4⟩ := (numL2_iff _ _).mp h
      cases hw : wcs w with
      | nil => rw [hw] at h1; exact absurd h1 (by decide)
      | cons d r =>
        rw [hw] at c h1 h2 h4
        obtain rfl := Option.some.inj c.1
        rw [List.drop_one, List.tail_cons] at h1 h2 h4
        exact ⟨_, intText_neg hw (all_digits h4) (fun e => by rw [e] at h1; exact absurd h1 (by decide)) (by rw [len_cs, hw, List.length_cons]; omega)⟩
  · rw [if_neg c] at h
    obtain ⟨n, h, _⟩ := int_of_num h
    exact ⟨n, h⟩
theorem len_of_thing {w : Str} (h : thingL (wcs w) = true) : w.length ≤ 13 := by
  unfold thingL at h
  rw [len_cs]
  by_cases c : (wcs w).head? = some 45 ∧ wcs w ≠ [45, 48]
  · rw [if_pos c, Bool.or_eq_true, decide_eq_true_eq] at h
    rcases h with h | h
    · rw [h]; decide
    · obtain ⟨h1, h2, _, h4⟩ := (numL2_iff _ _).mp h
      rw [List.length_drop] at h2
      omega
  · rw [if_neg c] at h
    have := ((numL2_iff _ _).mp h).2.1
    omega
/-- the time that a word tells -/
def wordI (w : Str) : Int := (intText? w).getD 0
def wordV (w : Str) : Option Int := if w = "-" then none else some (wordI w)
/-- where the bar stands; the words that tell times; the last word -/
def barW (W : List Str) : Nat := W.findIdx fun y : Str => decide (y = "|")
def toldW (W : List Str) : List Str := W.take (barW W) ++ (W.drop (barW W + 1)).take (W.length - 2 - (barW W + 1))
def lastW (W : List Str) : Str := (W[W.length - 1]?).getD Str.empty
def FormW (W : List Str) : Prop := (W.countP fun y : Str => decide (y = "|")) = 1 ∧ 4 ≤ W.length ∧ W[W.length - 2]? = some ("+" : Str) ∧ barW W + 4 ≤ W.length ∧ numL2 12 (wcs (lastW W)) = true ∧ (toldW W).all (fun w => thingL (wcs w)) = true
def thingsW (W : List Str) : List (Option Int) := (toldW W).map wordV
theorem bar_lt {W : List Str} (h : (W.countP fun y : Str => decide (y = "|")) = 1) : barW W < W.length ∧ W[barW W]? = some ("|" : Str) ∧ ∀ m, m < barW W → ∀ z, W[m]? = some z → z ≠ "|" := by
  have hex : ∃ x ∈ W, decide (x = ("|" : Str)) = true := by
    have : 0 < W.countP fun y => decide (y = ("|" : Str)) := by omega
    exact List.countP_pos_iff.mp this
  have hlt : barW W < W.length := List.findIdx_lt_length.mpr hex
  have hg := List.findIdx_getElem (xs := W) (p := fun y : Str => decide (y = ("|" : Str))) (w := hlt)
  refine ⟨hlt, ?_, fun m hm z hz e => ?_⟩
  · rw [List.getElem?_eq_getElem hlt]
    exact congrArg some (of_decide_eq_true hg)
  · obtain ⟨hm', hz'⟩ := List.getElem?_eq_some_iff.mp hz
    have := List.not_of_lt_findIdx (xs := W) (p := fun y : Str => decide (y = ("|" : Str))) hm
    rw [hz', e] at this
    exact absurd this (by decide)
theorem last_at {W : List Str} (h : 1 ≤ W.length) : W[W.length - 1]? = some (lastW W) := by
  unfold lastW
  obtain ⟨x, hx⟩ : ∃ x, W[W.length - 1]? = some x := ⟨_, List.getElem?_eq_getElem (by omega)⟩
  rw [hx]
  rfl
theorem told_len {W : List Str} (h : barW W + 4 ≤ W.length) : (toldW W).length = W.length - 3 := by
  unfold toldW
  rw [List.length_append, List.length_take, List.length_take, List.length_drop]
  omega
theorem things_len {W : List Str} (h : barW W + 4 ≤ W.length) : (thingsW W).length = W.length - 3 := by
  unfold thingsW
  rw [List.length_map, told_len h]
/-- slices from below -/
theorem cut_neg {xs : List V} {b k : Nat} (hk : 1 ≤ k) (h : k ≤ xs.length) (hb : b ≤ xs.length) : cutV xs (some (b : Int)) (some (-(k : Int))) = (xs.drop b).take (xs.length - k - b) := by
  unfold cutV
  rw [HT.sIx_nat, Nat.min_eq_left hb]
  have : HT.sIx xs.length xs.length (some (-(k : Int))) = xs.length - k := by
    show (if (-(k : Int)) < 0 then ((-(k : Int)) + (xs.length : Int)).toNat else _) = _
    rw [if_pos (by omega)]
    omega
  rw [this]
end My

namespace My
open PySem PySem.Spec PyProof.Rows L2
local macro_rules | `(tactic| walk_at "side") => `(tactic| first | (dsimp only; omega) | exact ⟨by omega, by omega⟩ | exact Or.inl ⟨by omega, by omega⟩ | exact Or.inr ⟨by omega, by omega⟩ | decide)
local macro_rules | `(tactic| walk_at "sq") => `(tactic| first | assumption | exact SqL.of (by assumption) | exact SqT.of (by assumption) | (refine L2.Same.seq (by assumption) ?_; walk_at "sq") | (refine L2.Same.seqT (by assumption) ?_; walk_at "sq") | exact Or.inl (by walk_at "sq") | exact Or.inr (by walk_at "sq"))
local macro_rules | `(tactic| walk_at "1") => `(tactic| first
  | refine ⟨_, rfl, iteT ?_⟩
  | refine ⟨_, rfl, iteF ?_⟩
  | refine ⟨_, rfl, ?_⟩
  | refine ⟨_, _, rfl, rfl, (by walk_at "side"), ?_⟩
  | refine ⟨_, _, rfl, rfl, ?_⟩
  | refine ⟨_, _, _, _, true, rfl, .ty _, .base (.int _), kit_ty (a := "int") (by decide +kernel), ?_⟩
  | refine ⟨_, _, _, _, false, rfl, .ty _, .base (.int _), kit_ty (a := "int") (by decide +kernel), ?_⟩
  | refine ⟨_, _, rfl, (by walk_at "sq"), ?_⟩
  | refine ⟨_, _, _, _, rfl, rfl, (by walk_at "sq"), (by first | rfl | assumption), ?_⟩
  | refine Or.inl ⟨_, _, _, _, rfl, rfl, (by walk_at "sq"), (by first | rfl | assumption), ?_⟩
  | refine Or.inr (Or.inl ⟨_, _, _, _, rfl, rfl, (by walk_at "sq"), (by first | rfl | assumption), ?_⟩)
  | refine ⟨_, _, rfl, Or.inl ⟨(by walk_at "sq"), ?_⟩⟩
  | refine ⟨rfl, ?_⟩
  | refine iteT ?_
  | refine iteF ?_
  | refine ⟨_, _, _, _, _, rfl, (by assumption), (by assumption), (by assumption), (by assumption), ?_⟩
  | refine Or.inl ⟨_, rfl, ?_⟩
  | refine Or.inr ⟨_, rfl, ?_⟩
  | refine ⟨_, _, rfl, (by walk_at "side"), ?_⟩
  | refine ⟨_, _, rfl, ?_⟩)
local macro_rules | `(tactic| walk_at "fld") => `(tactic| skip)
local macro_rules | `(tactic| walk_at "s") => `(tactic| repeat walk_at "1")
local macro_rules | `(tactic| walk_at "size") => `(tactic| first | exact Nat.le_of_ble_eq_true rfl | (simp only [List.length_map, List.length_append, List.length_cons, List.length_nil]; omega))
local macro_rules | `(tactic| walk_at "new") => `(tactic| (first | refine ⟨(by walk_at "size"), fun p hp => ?_⟩ | refine fun p hp => ?_); (generalize hq : upd _ p _ = H1); (obtain ⟨s, e⟩ := new_facts hp hq); clear hq)
local macro_rules | `(tactic| walk_at "1") => `(tactic| refine And.intro (by assumption) ?_)

open TL
theorem strOk_asc {w : Str} (h : ∀ c ∈ wcs w, c < 128) : PyData.strOk w = true := by
  unfold PyData.strOk
  rw [← Array.all_toList]
  exact List.all_eq_true.mpr fun c hc => decide_eq_true (Nat.lt_trans (h c hc) (by decide))
theorem strOk_sign {c : Nat} (h : c < 128) : PyData.strOk ⟨#[c]⟩ = true := strOk_asc fun d hd => by
  rw [show d = c by simpa using hd]
  exact h
section
variable {P : Program} {w : World} {K : PySem.W.Frag} {mg : Str → Option Value} {base : Heap}
abbrev s_law_is_integer : Stmt := topS 34
theorem sc_law_is_integer : FnScope ["word", "figures", "sign"] ["word"] (defScope s_law_is_integer) := ⟨rfl, rfl, rfl, by decide +kernel, rfl, by decide +kernel, by decide +kernel⟩
def spLawInt : Sp := fun vs H Q _ => ∃ (x : Str), vs = [.str x] ∧ x.length ≤ 10000 ∧ (∀ c ∈ wcs x, c < 128) ∧ ∀ H', Same H H' → Q (.bl (intL (wcs x))) H'
set_option maxHeartbeats 8000000 in
theorem ok_law_is_integer (D : Df K mg "_law_is_integer" s_law_is_integer ["word"]) (T : Txt mg) : Own P w K mg base "_law_is_integer" 1 ["word"] spLawInt := by
  refine D.own sc_law_is_integer (fun vs H Q E h => ?_) (fun fa cdv A outer s H vs Q E hr h => ?_)
  · obtain ⟨_, rfl, _⟩ := h
    rfl
  · obtain ⟨x, rfl, hl, hA, k⟩ := h
    have h10 : 10000 ≤ sizeLine := by decide
    refine ⟨_, (C8.pss_cut (ps_set (i := 1) sc_law_is_integer.nd rfl (Or.inl rfl) (pe_ifExp (pt_cmpR op_eq (pe_slice sl_str (pv 0) po_none (po_some pe_int)) pe_str (nomark _)) (pe_slice sl_str (pv 0) (po_some pe_int) po_none) (pv 0)))
  (C8.pss_cut (ps_if (PW.pt (pw_or (pt_not (pt_chain op_lt op_lt pe_int (pe_callB call_len_str (by rfl) T.len PySem.boot_len (pa_cons (pv 1) pa_nil)) pe_int)) (pw_or1 (pt_cmpR (op_neD hr.units) (pe_lc (own := [("sign", 2)]) (g := gName 2) (tt := (tTest (tOp _ (tVar 2) (tC (.str "0123456789"))))) rfl sc_law_is_integer.nd (pi_str (pv 1)) (blkOk_by (own := [("sign", 2)]) (N := ["word", "figures", "sign"]) (sc := defScope s_law_is_integer) (by decide +kernel)) (fun _ _ _ _ _ => (pg_name (i := 2) sc_law_is_integer.nd rfl (Or.inl rfl))) (fun _ _ _ _ _ => (pts_one (pt_cmpR op_notIn_sign (pv 2) pe_str (by rfl)))) (fun _ _ _ _ _ => (pv 2))) (pe_lst pa_nil) (nomark _)))))
    (pss_one (ps_ret pe_bl))
    pss_nil)
  (pss_one (ps_ret (pe_or (pe_and (pe_cmpR op_eq (pv 1) pe_str (nomark _)) (pe_one (pe_cmpR op_eq (pv 0) pe_str (nomark _)))) (pe_one (pe_cmpR op_ne (pe_ix ix_str (pv 1) pe_int (fun _ _ => rfl)) pe_str (nomark _)))))))), ?_⟩
    have hle : x.length ≤ sizeLine := by omega
    refine ⟨fun σ' H' => ∃ f : Str, σ' = [some (.str x), some (.str f), none] ∧ H' = H ∧ wcs f = figL (wcs x) ∧ f.length ≤ x.length, ?_, ?_⟩
    · walk_at "s"
      rw [lit_m, str_eqL, cut_01]
      by_cases h1 : (wcs x).take 1 = [45]
      · rw [decide_eq_true h1]
        walk_at "s"
        refine ⟨?_, cutS_length _ _ _⟩
        exact (cut_1 x).trans (if_pos h1).symm
      · rw [decide_eq_false h1]
        walk_at "s"
        exact ⟨(if_neg h1).symm, Nat.le_refl _⟩
    · rintro σ' H0 ⟨f, rfl, rfl, hf, hfl⟩
      have hlf : f.length = (wcs f).length := len_cs f
      have hfle : f.length ≤ sizeLine := by omega
      have hAf : ∀ c ∈ wcs f, c < 128 := fun c hc => hA c (by
        rw [hf] at hc
        unfold figL at hc
        by_cases h1 : (wcs x).take 1 = [45]
        · rw [if_pos h1] at hc
          exact List.mem_of_mem_drop hc
        · rw [if_neg h1] at hc
          exact hc)
      refine ⟨fun σ' H' => σ' = [some (.str x), some (.str f), none] ∧ Same H0 H' ∧ 0 < f.length ∧ f.length < 13 ∧ (wcs f).all dig = true, ?_, ?_⟩
      · have bad : ∀ H', Same H0 H' → ¬ (0 < f.length ∧ f.length < 13 ∧ (wcs f).all dig = true) → Q (.bl false) H' := fun H' s' e => by
          have := k H' s'
          rw [show intL (wcs x) = false from Bool.eq_false_iff.mpr fun q => e (by
            have q' := (intL_iff _).mp q
            rw [← hf, ← hlf] at q'
            exact ⟨q'.1, q'.2.1, q'.2.2.1⟩)] at this
          exact this
        walk_at "s"
        by_cases h1 : 0 < f.length
        · rw [decide_eq_true (show (0 : Int) < (f.length : Int) by omega)]
          walk_at "s"
          by_cases h2 : f.length < 13
          · rw [decide_eq_true (show (f.length : Int) < 13 by omega)]
            walk_at "s"
            refine fun L nL => lc_it walk_str (LcP H0 L fun i => ((wcs f)[i]?).bind fun c => if dig c = true then none else some (V.str ⟨#[c]⟩)) (LcP.zero nL) (fun _ _ _ _ => trivial) ?_ ?_
            · rintro i y H1 H2 hi p ⟨rfl, c, hc, rfl⟩
              have hc' : (wcs f)[i]? = some c := by simpa using hc
              walk_at "s"
              rw [digits_mem]
              by_cases hd : dig c = true
              · rw [hd]
                walk_at "s"
                exact p.no (Same.refl _) (by rw [hc']; exact if_pos hd)
              · simp only [Bool.not_eq_true] at hd
                rw [hd]
                walk_at "s"
                exact p.yes (Same.refl _) nL (by have : i < (wcs f).length := (List.getElem?_eq_some_iff.mp hc').1
                                                 omega) (by rw [hc']; exact if_neg (by rw [hd]; decide))
            · intro H1 p
              have e := p.lst
              have hsz : f.cps.size = (wcs f).length := (Array.length_toList).symm
              rw [hsz] at e
              have efm : ((List.range (wcs f).length).filterMap fun i => ((wcs f)[i]?).bind fun c => if dig c = true then none else some (V.str ⟨#[c]⟩)) = (((wcs f).filter fun c => !dig c).map fun c => (⟨#[c]⟩ : Str)).map V.str := by
                have := fm_if (wcs f) (fun c => !dig c) (fun c => V.str ⟨#[c]⟩)
                rw [List.map_map]
                refine Eq.trans ?_ this
                congr 1
                funext i
                cases (wcs f)[i]? with
                | none => rfl
                | some c =>
                  show (if dig c = true then none else some (V.str ⟨#[c]⟩)) = if (!dig c) = true then some (V.str ⟨#[c]⟩) else none
                  cases dig c <;> rfl
              rw [efm] at e
              have ps := p.same
              walk_at "s"
              walk_at "new"
              rename_i q nq H2 s2 e2
              refine rd_neNil _ ?_ (SqL.of (s2 _ _ e)) (SqL.of e2) ?_
              · intro z hz
                obtain ⟨c, hc, rfl⟩ := List.mem_map.mp hz
                exact strOk_sign (hAf c (List.mem_filter.mp hc).1)
              · by_cases h3 : (wcs f).all dig = true
                · have hn : ((wcs f).filter fun c => !dig c) = [] := List.filter_eq_nil_iff.mpr fun c hc => by
                    rw [List.all_eq_true.mp h3 c hc]
                    decide
                  rw [hn]
                  walk_at "s"
                  exact ⟨ps.trans s2, h1, h2, h3⟩
                · have hn : ¬ (((wcs f).filter fun c => !dig c).map fun c => (⟨#[c]⟩ : Str)) = [] := fun q => h3 (by
                    have q' := List.filter_eq_nil_iff.mp (List.map_eq_nil_iff.mp q)
                    refine List.all_eq_true.mpr fun c hc => ?_
                    have := q' c hc
                    simpa using this)
                  rw [decide_eq_false hn]
                  walk_at "s"
                  exact bad _ (ps.trans s2) fun z => h3 z.2.2
          · rw [decide_eq_false (show ¬ (f.length : Int) < 13 by omega)]
            walk_at "s"
            exact bad _ (Same.refl _) fun z => h2 z.2.1
        · rw [decide_eq_false (show ¬ (0 : Int) < (f.length : Int) by omega)]
          walk_at "s"
          exact bad _ (Same.refl _) fun z => h1 z.1
      · rintro σ' H1 ⟨rfl, s1, h1, h2, h3⟩
        have hi : intL (wcs x) = (decide (wcs f = [48]) && decide (wcs x = [48]) || !decide ((wcs f).headD 0 = 48)) := by
          unfold intL
          rw [← hf, ← hlf, decide_eq_true h1, decide_eq_true h2, h3]
          rfl
        have k1 := k H1 s1
        rw [hi] at k1
        have hat : atI (wcs f) 0 = some ((wcs f).headD 0) := by
          cases hw : wcs f with
          | nil => rw [hlf, hw] at h1; exact absurd h1 (by decide)
          | cons c r => exact atI_nat (j := 0) rfl
        have hfle : f.length ≤ sizeLine := by omega
        walk_at "s"
        rw [lit_0, str_eqL]
        have step : ∀ b : Bool, (decide (wcs f = [48]) && decide (wcs x = [48])) = b → (b = false → ∃ y c, V.str y = V.str f ∧ True) := fun _ _ _ => ⟨f, 0, rfl, trivial⟩
        by_cases h4 : wcs f = [48]
        · rw [decide_eq_true h4] at k1 ⊢
          walk_at "s"
          rw [str_eqL]
          by_cases h5 : wcs x = [48]
          · rw [decide_eq_true h5] at k1 ⊢
            walk_at "s"
            exact k1
          · rw [decide_eq_false h5] at k1 ⊢
            walk_at "s"
            refine ⟨f, 0, (wcs f).headD 0, rfl, rfl, hfle, hat, ?_⟩
            walk_at "s"
            rw [show (⟨[48].toArray⟩ : Str) = ⟨#[48]⟩ from rfl, sign_eq]
            exact k1
        · rw [decide_eq_false h4] at k1 ⊢
          walk_at "s"
          refine ⟨f, 0, (wcs f).headD 0, rfl, rfl, hfle, hat, ?_⟩
          walk_at "s"
          rw [show (⟨[48].toArray⟩ : Str) = ⟨#[48]⟩ from rfl, sign_eq]
          exact k1
end
end My

namespace My
open PySem PySem.Spec PyProof.Rows L2
local macro_rules | `(tactic| walk_at "side") => `(tactic| first | (dsimp only; omega) | exact ⟨by omega, by omega⟩ | exact Or.inl ⟨by omega, by omega⟩ | exact Or.inr ⟨by omega, by omega⟩ | decide)
local macro_rules | `(tactic| walk_at "sq") => `(tactic| first | assumption | exact SqL.of (by assumption) | exact SqT.of (by assumption) | (refine L2.Same.seq (by assumption) ?_; walk_at "sq") | (refine L2.Same.seqT (by assumption) ?_; walk_at "sq") | exact Or.inl (by walk_at "sq") | exact Or.inr (by walk_at "sq"))
local macro_rules | `(tactic| walk_at "1") => `(tactic| first
  | refine ⟨_, rfl, iteT ?_⟩
  | refine ⟨_, rfl, iteF ?_⟩
  | refine ⟨_, rfl, ?_⟩
  | refine ⟨_, _, rfl, rfl, (by walk_at "side"), ?_⟩
  | refine ⟨_, _, rfl, rfl, ?_⟩
  | refine ⟨_, _, _, _, true, rfl, .ty _, .base (.int _), kit_ty (a := "int") (by decide +kernel), ?_⟩
  | refine ⟨_, _, _, _, false, rfl, .ty _, .base (.int _), kit_ty (a := "int") (by decide +kernel), ?_⟩
  | refine ⟨_, _, rfl, (by walk_at "sq"), ?_⟩
  | refine ⟨_, _, _, _, rfl, rfl, (by walk_at "sq"), (by first | rfl | assumption), ?_⟩
  | refine Or.inl ⟨_, _, _, _, rfl, rfl, (by walk_at "sq"), (by first | rfl | assumption), ?_⟩
  | refine Or.inr (Or.inl ⟨_, _, _, _, rfl, rfl, (by walk_at "sq"), (by first | rfl | assumption), ?_⟩)
  | refine ⟨_, _, rfl, Or.inl ⟨(by walk_at "sq"), ?_⟩⟩
  | refine ⟨rfl, ?_⟩
  | refine iteT ?_
  | refine iteF ?_
  | refine ⟨_, _, _, _, _, rfl, (by assumption), (by assumption), (by assumption), (by assumption), ?_⟩
  | refine Or.inl ⟨_, rfl, ?_⟩
  | refine Or.inr ⟨_, rfl, ?_⟩
  | refine ⟨_, _, rfl, (by walk_at "side"), ?_⟩
  | refine ⟨_, _, rfl, ?_⟩)
local macro_rules | `(tactic| walk_at "fld") => `(tactic| skip)
local macro_rules | `(tactic| walk_at "s") => `(tactic| repeat walk_at "1")
local macro_rules | `(tactic| walk_at "size") => `(tactic| first | exact Nat.le_of_ble_eq_true rfl | (simp only [List.length_map, List.length_append, List.length_cons, List.length_nil]; omega))
local macro_rules | `(tactic| walk_at "new") => `(tactic| (first | refine ⟨(by walk_at "size"), fun p hp => ?_⟩ | refine fun p hp => ?_); (generalize hq : upd _ p _ = H1); (obtain ⟨s, e⟩ := new_facts hp hq); clear hq)
local macro_rules | `(tactic| walk_at "1") => `(tactic| refine And.intro (by assumption) ?_)

open TL
/-- a value that is no text -/
inductive OddAt (C : Addr) (H : Hp) : V → Prop where
  | non : OddAt C H .non
  | int (i : Int) : OddAt C H (.int i)
  | obj {a dx : Addr} {fs : List (Str × V)} (h : H a = some (.ins C dx fs)) : OddAt C H (.ref a)
  | tup {a : Addr} {xs : List V} (h : H a = some (.tup xs)) : OddAt C H (.ref a)
theorem atI_back {xs : List V} {k : Nat} {v : V} (hk : 1 ≤ k) (hl : k ≤ xs.length) (h : xs[xs.length - k]? = some v) : atI xs (-(k : Int)) = some v := by
  unfold atI
  have : ixN xs.length (-(k : Int)) = some (xs.length - k) := by
    unfold ixN
    rw [if_neg (by omega), if_pos (by omega)]
    congr 1
    omega
  rw [this]
  exact h
theorem OddAt.same {C : Addr} {H H' : Hp} {v : V} (h : OddAt C H v) (s : Same H H') : OddAt C H' v := by
  cases h with
  | non => exact .non
  | int i => exact .int i
  | obj h => exact .obj (s _ _ h)
  | tup h => exact .tup (s _ _ h)
theorem raised {U : Addr} {H H1 : Hp} {q d : Addr} {x : Str} {y : V} {E : XK} (s1 : Same H H1) (nq : H1 q = none) (nd : (upd H1 q (exo q U none)) d = none) (ned : d ≠ q) (kE : ∀ H' d, Same H H' → H' d = some (.xd [(x, y)]) → E (.ref U) (some d) H') :
    V.non = V.non ∧ ∃ d' fs, (upd (upd (upd H1 q (exo q U none)) d (exd d [(x, y)])) q (exo q U (some d))) q = some (exo q U (some d')) ∧ (upd (upd (upd H1 q (exo q U none)) d (exd d [(x, y)])) q (exo q U (some d))) d' = some (exd d' fs) ∧
      H1 d' = none ∧ E (.ref U) (some d') (upd (del (upd (upd (upd H1 q (exo q U none)) d (exd d [(x, y)])) q (exo q U (some d))) q) d' (HO.xd fs)) := by
  have nd1 : H1 d = none := by
    rw [upd_ne ned] at nd
    exact nd
  refine ⟨rfl, d, [(x, y)], upd_same, ?_, nd1, ?_⟩
  · rw [upd_ne ned, upd_same]
  · refine kE _ d (fun b o e => ?_) upd_same
    have e1 := s1 _ _ e
    have nb : b ≠ d := ne_of_none e1 nd1
    have nq' : b ≠ q := ne_of_none e1 nq
    rw [upd_ne nb, del_ne nq', upd_ne nq', upd_ne nb, upd_ne nq']
    exact e1
section
variable {P : Program} {w : World} {K : PySem.W.Frag} {mg : Str → Option Value} {base : Heap} {C U : Addr}
abbrev s_arguments_told : Stmt := topS 20
theorem sc_arguments_told : FnScope ["text", "words", "bar", "told", "things", "word"] ["text"] (defScope s_arguments_told) := ⟨rfl, rfl, rfl, by decide +kernel, rfl, by decide +kernel, by decide +kernel⟩
/-- InvalidText(0) is let out -/
def OutT (U : Addr) (H : Hp) (E : XK) : Prop := ∀ H' d, Same H H' → H' d = some (.xd [("at", .int 0)]) → E (.ref U) (some d) H'
def spArgs (C U : Addr) : Sp := fun vs H Q E => ∃ v, vs = [v] ∧
  ((OddAt C H v ∧ OutT U H E) ∨
   ∃ x : Str, v = .str x ∧ x.length ≤ 10000 ∧ (∀ w ∈ Txt.split x " ", w.length ≤ 10000) ∧ (¬ FormW (Txt.split x " ") → OutT U H E) ∧
     (FormW (Txt.split x " ") → ∀ H' p pa pb, Same H H' → H' p = some (.tup [.ref pa, .ref pb, .int (wordI (lastW (Txt.split x " ")))]) →
       H' pa = some (.lst (((thingsW (Txt.split x " ")).take (barW (Txt.split x " "))).map ov)) → H' pb = some (.lst (((thingsW (Txt.split x " ")).drop (barW (Txt.split x " "))).map ov)) → Q (.ref p) H'))
set_option maxHeartbeats 8000000 in
theorem ok_arguments_told (D : Df K mg "_arguments_told" s_arguments_told ["text"]) (T : Txt mg) (R : RowIs K C) (RS : PySem.W.kitOne K (.ref C) (.type "str") = some false) (X : ErrC P w K mg base U "InvalidText" "at" (spErr U "at")) (gM : ∃ t, mg "MOST_DIGITS" = some (.int 12 t))
    (o_is_number_word : Own P w K mg base "is_number_word" 1 ["word", "most"] spNumWord) (o_is_thing_word : Own P w K mg base "_is_thing_word" 2 ["word"] spThingWord) : OwnX P w K mg base "_arguments_told" 3 ["text"] (spArgs C U) := by
  obtain ⟨tM, gM⟩ := gM
  obtain ⟨fI, fdI, OX, iC, tI, FI, bI, mI⟩ := X.ex
  refine D.ownX sc_arguments_told (fun vs H Q E h => ?_) (fun fa cdv A outer s H vs Q E hr h => ?_)
  · obtain ⟨_, rfl, _⟩ := h
    rfl
  · obtain ⟨v, rfl, hor⟩ := h
    have h10 : 10000 ≤ sizeLine := by decide
    refine ⟨_, (pss_cons (ps_if (pt_not (pt_val (pe_callB call_isi (by rfl) T.isinstance (by decide +kernel) (pa_cons (pv 0) (pa_cons (pe_bltn (v := .ty "str") (by rfl) T.str (by decide +kernel) rfl) pa_nil)))))
    (pss_one (ps_raise rfl (takes_of rfl rfl rfl rfl) (pmk_oex OX iC tI FI (hr.mono (by decide)) bI .nil pass0 rfl mI (pa_cons pe_int pa_nil))))
    pss_nil)
  (pss_cons (ps_set (i := 1) sc_arguments_told.nd rfl (Or.inl rfl) (pe_m1 PySem.F.slot_str_split PySem.F.type_str_split mt_split (pv 0) pe_str))
  (C8.pss_cut (ps_if (PW.pt (pw_or (pt_cmpR op_ne (pe_bm PySem.F.plainAttrs_list PySem.F.slot_list_count PySem.F.type_list_count mt_scount (pv 1) (pa_cons pe_str pa_nil)) pe_int (nomark _)) (pw_or (pt_cmpR op_lt (pe_callB call_len_seq (by rfl) T.len PySem.boot_len (pa_cons (pv 1) pa_nil)) pe_int (nomark _)) (pw_or1 (pt_cmpR op_ne (pe_ix ix_list (pv 1) (pe_un un_neg pe_int) (fun _ _ => rfl)) pe_str (nomark _))))))
    (pss_one (ps_raise rfl (takes_of rfl rfl rfl rfl) (pmk_oex OX iC tI FI (hr.mono (by decide)) bI .nil pass0 rfl mI (pa_cons pe_int pa_nil))))
    pss_nil)
  (pss_cons (ps_set (i := 2) sc_arguments_told.nd rfl (Or.inl rfl) (pe_bm PySem.F.plainAttrs_list PySem.F.slot_list_index PySem.F.type_list_index mt_index (pv 1) (pa_cons pe_str pa_nil)))
  (C8.pss_cut (ps_set (i := 3) sc_arguments_told.nd rfl (Or.inl rfl) (pe_lst (StX.pa_star (pe_slice sl_list (pv 1) po_none (po_some (pv 2))) (StX.pa_star (pe_slice sl_list (pv 1) (po_some (pe_op op_add (pv 2) pe_int)) (po_some (pe_un un_neg pe_int))) pa_nil))))
  (C8.pss_cut (ps_if (PW.pt (pw_or (pt_cmpR op_gt (pv 2) (pe_op op_sub (pe_callB call_len_seq (by rfl) T.len PySem.boot_len (pa_cons (pv 1) pa_nil)) pe_int) (nomark _)) (pw_or1 (pt_not (pt_val (pe_own o_is_number_word (hr.mono (by decide)) (pa_cons (pe_ix ix_list (pv 1) (pe_un un_neg pe_int) (fun _ _ => rfl)) (pa_cons (pe_glob (v := .int 12) rfl gM ⟨tM, rfl⟩) pa_nil))))))))
    (pss_one (ps_raise rfl (takes_of rfl rfl rfl rfl) (pmk_oex OX iC tI FI (hr.mono (by decide)) bI .nil pass0 rfl mI (pa_cons pe_int pa_nil))))
    pss_nil)
  (C8.pss_cut (ps_if (pt_not (pt_val (pe_callB (cr_all rfl) (by rfl) T.all (by decide +kernel) (pa_cons (pe_lc (own := [("word", 5)]) (g := gName 5) (tt := tYes) rfl sc_arguments_told.nd (pi_list (pv 3)) (blkOk_by (own := [("word", 5)]) (N := ["text", "words", "bar", "told", "things", "word"]) (sc := defScope s_arguments_told) (by decide +kernel)) (fun _ _ _ _ _ => (pg_name (i := 5) sc_arguments_told.nd rfl (Or.inl rfl))) (fun _ _ _ _ _ => pts_nil) (fun _ _ _ _ _ => (pe_own o_is_thing_word (hr.mono (by decide)) (pa_cons (pv 5) pa_nil)))) pa_nil))))
    (pss_one (ps_raise rfl (takes_of rfl rfl rfl rfl) (pmk_oex OX iC tI FI (hr.mono (by decide)) bI .nil pass0 rfl mI (pa_cons pe_int pa_nil))))
    pss_nil)
  (C8.pss_cut (ps_setLc (i := 4) (own := [("word", 5)]) (g := gName 5) (tt := tYes) rfl sc_arguments_told.nd rfl rfl (sw_true rfl rfl rfl (by decide +kernel)) (pi_list (pv 3)) (blkOk_by (own := [("word", 5)]) (N := ["text", "words", "bar", "told", "things", "word"]) (sc := defScope s_arguments_told) (by decide +kernel)) (fun _ _ _ _ _ => (pg_name (i := 5) sc_arguments_told.nd rfl (Or.inl rfl))) (fun _ _ _ _ _ => pts_nil) (fun _ _ _ _ _ => (pe_ifExp (pt_cmpR op_eq (pv 5) pe_str (nomark _)) pe_non (pe_callTy call_int_str (by rfl) T.int (by decide +kernel) (pa_cons (pv 5) pa_nil)))))
  (pss_one (ps_ret (pe_tup (pa_cons (pe_slice sl_list (pv 4) po_none (po_some (pv 2))) (pa_cons (pe_slice sl_list (pv 4) (po_some (pv 2)) po_none) (pa_cons (pe_callTy call_int_str (by rfl) T.int (by decide +kernel) (pa_cons (pe_ix ix_list (pv 1) (pe_un un_neg pe_int) (fun _ _ => rfl)) pa_nil)) pa_nil)))))))))))))), ?_⟩
    rcases hor with ⟨hv, kE⟩ | ⟨x, rfl, hl, hw, kE, k⟩
    · have fin : ∀ (b : Bool) (Q' : VK), Q' (.bl b) H → Q' (.bl b) H := fun _ _ q => q
      refine ⟨_, rfl, ?_⟩
      cases hv with
      | non =>
        refine ⟨_, _, _, _, false, rfl, .ty _, (.base .non), kit_ty (a := "NoneType") (b := "str") (by decide +kernel), ?_⟩
        walk_at "s"
        refine ⟨(by show 1 ≤ 1000; decide), fun q nq => ?_⟩
        refine ⟨q, .int 0, rfl, upd_same, fun d nd ned => ?_⟩
        exact raised (Same.refl _) nq nd ned kE
      | int i =>
        refine ⟨_, _, _, _, false, rfl, .ty _, (.base (.int i)), kit_ty (a := "int") (b := "str") (by decide +kernel), ?_⟩
        walk_at "s"
        refine ⟨(by show 1 ≤ 1000; decide), fun q nq => ?_⟩
        refine ⟨q, .int 0, rfl, upd_same, fun d nd ned => ?_⟩
        exact raised (Same.refl _) nq nd ned kE
      | obj h =>
        refine ⟨_, _, _, _, false, rfl, .ty _, (.base (.ins h R.cl R.ha R.hn R.ht R.hm)), RS, ?_⟩
        walk_at "s"
        refine ⟨(by show 1 ≤ 1000; decide), fun q nq => ?_⟩
        refine ⟨q, .int 0, rfl, upd_same, fun d nd ned => ?_⟩
        exact raised (Same.refl _) nq nd ned kE
      | tup h =>
        refine ⟨_, _, _, _, false, rfl, .ty _, (.base (.tup h)), kit_ty (a := "tuple") (b := "str") (by decide +kernel), ?_⟩
        walk_at "s"
        refine ⟨(by show 1 ≤ 1000; decide), fun q nq => ?_⟩
        refine ⟨q, .int 0, rfl, upd_same, fun d nd ned => ?_⟩
        exact raised (Same.refl _) nq nd ned kE
    · refine ⟨_, rfl, _, _, _, _, true, rfl, .ty _, (.base (.str x)), kit_ty (a := "str") (b := "str") (by decide +kernel), ?_⟩
      have hsp := PyProof.Rows.split_le x " "
      have hx2 : x.length + 2 ≤ sizeLine := Nat.le_trans (show x.length + 2 ≤ 10002 by omega) (by decide)
      walk_at "s"
      refine ⟨⟨x, rfl⟩, x, " ", rfl, rfl, by decide, hx2, fun pw nw => ?_⟩
      generalize hq : upd _ pw _ = H1
      obtain ⟨s1, e1⟩ := new_facts nw hq
      clear hq
      generalize Txt.split x " " = W at *
      have hbad : ∀ H', Same H1 H' → ¬ FormW W → OutT U H' E := fun H' s' hn H2 d s2 e2 => kE hn _ d (s1.trans (s'.trans s2)) e2
      have hWl : W.length ≤ sizeLine := by omega
      have hW1 : (W.map V.str).length = W.length := List.length_map ..
      refine ⟨fun σ' H' => σ' = [some (.str x), some (.ref pw), none, none, none, none] ∧ H' = H1 ∧ (W.countP fun y : Str => decide (y = "|")) = 1 ∧ 4 ≤ W.length ∧ W[W.length - 2]? = some ("+" : Str), ?_, ?_⟩
      · walk_at "s"
        refine ⟨Or.inl ⟨rfl, _, SqL.of e1⟩, ?_⟩
        walk_at "s"
        refine ⟨pw, W, "|", rfl, rfl, SqL.of e1, ?_⟩
        walk_at "s"
        have bad : ¬ FormW W → ∀ H', Same H1 H' → OutT U H' E := fun hn H' s' => hbad _ s' hn
        by_cases c1 : (W.countP fun y : Str => decide (y = "|")) = 1
        · rw [show decide (V.int ((W.countP fun y : Str => decide (y = "|") : Nat) : Int) = V.int 1) = true from by rw [c1]; rfl]
          walk_at "s"
          rw [hW1]
          by_cases c2 : 4 ≤ W.length
          · rw [decide_eq_false (show ¬ (W.length : Int) < 4 by omega)]
            walk_at "s"
            have hat : atI (W.map V.str) (-2) = some (V.str (W[W.length - 2])) := atI_back (k := 2) (by decide) (by rw [hW1]; omega) (by rw [hW1, List.getElem?_map, List.getElem?_eq_getElem (by omega)]; rfl)
            refine ⟨pw, _, _, _, rfl, rfl, SqL.of e1, hat, ?_⟩
            walk_at "s"
            rw [str_eq]
            by_cases c3 : W[W.length - 2] = "+"
            · rw [decide_eq_true c3]
              walk_at "s"
              rw [List.getElem?_eq_getElem (by omega), c3]
            · rw [decide_eq_false c3]
              walk_at "s"

              refine ⟨(by show 1 ≤ 1000; decide), fun q nq => ?_⟩
              refine ⟨q, .int 0, rfl, upd_same, fun d nd ned => ?_⟩
              refine raised (Same.refl _) nq nd ned (bad (fun f => c3 ?_) _ (Same.refl _))
              have := f.2.2.1
              rw [List.getElem?_eq_getElem (by omega)] at this
              exact Option.some.inj this

          · rw [decide_eq_true (show (W.length : Int) < 4 by omega)]
            walk_at "s"
            refine ⟨(by show 1 ≤ 1000; decide), fun q nq => ?_⟩
            refine ⟨q, .int 0, rfl, upd_same, fun d nd ned => ?_⟩
            exact raised (Same.refl _) nq nd ned (bad (fun f => c2 f.2.1) _ (Same.refl _))
        · rw [show decide (V.int ((W.countP fun y : Str => decide (y = "|") : Nat) : Int) = V.int 1) = false from decide_eq_false fun q => c1 (by
            have := V.int.inj q
            omega)]
          walk_at "s"
          refine ⟨(by show 1 ≤ 1000; decide), fun q nq => ?_⟩
          refine ⟨q, .int 0, rfl, upd_same, fun d nd ned => ?_⟩
          exact raised (Same.refl _) nq nd ned (bad (fun f => c1 f.1) _ (Same.refl _))
      · rintro σ' H' ⟨rfl, rfl, c1, c2, c3⟩
        obtain ⟨hb1, hb2, hb3⟩ := bar_lt c1
        walk_at "s"
        refine ⟨Or.inl ⟨rfl, _, SqL.of e1⟩, ?_⟩
        walk_at "s"
        refine ⟨pw, W.map V.str, .str "|", barW W, .str "|", rfl, rfl, SqL.of e1, rfl, flat_strs W, ?_, ?_, ?_, ?_⟩
        · rw [List.getElem?_map, hb2]
          rfl
        · rfl
        · intro m z hm hz
          rw [List.getElem?_map] at hz
          obtain ⟨y, hy, rfl⟩ := Option.map_eq_some_iff.mp hz
          exact beq_eq_false_iff_ne.mpr (hb3 m hm y hy)
        walk_at "s"
        refine ⟨fun σ' H1 => ∃ pt, σ' = [some (.str x), some (.ref pw), some (.int (barW W)), some (.ref pt), none, none] ∧ Same H' H1 ∧ H1 pt = some (.lst ((toldW W).map V.str)), ?_, ?_⟩
        · walk_at "s"
          walk_at "new"
          rename_i p5 n5 H5 s5 e5
          rw [cut_to (by rw [hW1]; omega), ← List.map_take] at e5
          have e15 := s5 _ _ e1
          clear e1
          walk_at "s"
          rw [show ((barW W : Nat) : Int) + 1 = ((barW W + 1 : Nat) : Int) by omega]
          walk_at "s"
          walk_at "new"
          rename_i p6 n6 H6 s6 e6
          rw [show (-2 : Int) = -((2 : Nat) : Int) from rfl, cut_neg (by decide) (by rw [hW1]; omega) (by rw [hW1]; omega), hW1, ← List.map_drop, ← List.map_take] at e6
          have e56 := s6 _ _ e5
          clear e5 e15
          walk_at "s"
          refine ⟨(by simp only [List.length_map, List.length_append, List.length_take, List.length_drop, List.length_nil]; omega), fun pt nt => ?_⟩
          generalize hq : upd _ pt _ = H7
          obtain ⟨s7, e7⟩ := new_facts nt hq
          clear hq
          refine ⟨pt, rfl, s5.trans (s6.trans s7), ?_⟩
          rw [e7, List.append_nil, ← List.map_append]
          rfl
        · rintro σ' H1 ⟨pt, rfl, s2, e2⟩
          have e12 := s2 _ _ e1
          have s02 : Same H H1 := s1.trans s2
          have hlast := last_at (W := W) (by omega)
          have hatl : atI (W.map V.str) (-1) = some (V.str (lastW W)) := atI_back (k := 1) (by decide) (by rw [hW1]; omega) (by rw [hW1, List.getElem?_map, hlast]; rfl)
          have hwl : (lastW W).length ≤ 10000 := hw _ (List.mem_of_getElem? hlast)
          refine ⟨fun σ' H2 => σ' = [some (.str x), some (.ref pw), some (.int (barW W)), some (.ref pt), none, none] ∧ Same H1 H2 ∧ barW W + 4 ≤ W.length ∧ numL2 12 (wcs (lastW W)) = true, ?_, ?_⟩
          · walk_at "s"
            rw [hW1]
            by_cases c4 : barW W + 4 ≤ W.length
            · rw [decide_eq_false (show ¬ (W.length : Int) - 4 < (barW W : Int) by omega)]
              walk_at "s"
              intro H3 s3
              by_cases c5 : numL2 12 (wcs (lastW W)) = true
              · rw [show numL2 12 (lastW W).cps.toList = true from c5]
                walk_at "s"
                first | exact rfl | exact c5 | exact ⟨c4, rfl⟩ | exact ⟨s3, c4, rfl⟩ | exact ⟨c4, c5⟩ | exact ⟨s3, c4, c5⟩
              · simp only [Bool.not_eq_true] at c5
                rw [show numL2 12 (lastW W).cps.toList = false from c5]
                walk_at "s"
                refine ⟨(by show 1 ≤ 1000; decide), fun q nq => ?_⟩
                refine ⟨q, .int 0, rfl, upd_same, fun d nd ned => ?_⟩
                exact raised (Same.refl _) nq nd ned (hbad _ (s2.trans s3) fun f => absurd f.2.2.2.2.1 (by rw [c5]; decide))
            · rw [decide_eq_true (show (W.length : Int) - 4 < (barW W : Int) by omega)]
              walk_at "s"
              refine ⟨(by show 1 ≤ 1000; decide), fun q nq => ?_⟩
              refine ⟨q, .int 0, rfl, upd_same, fun d nd ned => ?_⟩
              exact raised (Same.refl _) nq nd ned (hbad _ s2 fun f => c4 f.2.2.2.1)
          · rintro σ' H2 ⟨rfl, s3, c4, c5⟩
            have s03 : Same H H2 := s02.trans s3
            have e1 := s3 _ _ e12
            have e23 := s3 _ _ e2
            have hmem : ∀ w ∈ toldW W, w.length ≤ 10000 := fun w hm => hw w (by
              rcases List.mem_append.mp hm with h | h
              · exact List.mem_of_mem_take h
              · exact List.mem_of_mem_drop (List.mem_of_mem_take h))
            have htl : (toldW W).length = W.length - 3 := told_len c4
            have hml : ((toldW W).map V.str).length = (toldW W).length := List.length_map ..
            clear e12 e2 s2 s3
            refine ⟨fun σ' H3 => σ' = [some (.str x), some (.ref pw), some (.int (barW W)), some (.ref pt), none, none] ∧ Same H2 H3 ∧ (toldW W).all (fun w => thingL (wcs w)) = true, ?_, ?_⟩
            · walk_at "s"
              refine ⟨⟨_, SqL.of e23⟩, fun L nL => lc_it walk_list (LcP H2 L fun i => ((toldW W)[i]?).map fun w => V.bl (thingL (wcs w))) (LcP.zero nL) (fun i H' _ p => SqL.of (p.same _ _ e23)) ?_ ?_⟩
              · rintro i y H3 H4 hi p ⟨rfl, hy⟩
                rw [List.getElem?_map] at hy
                obtain ⟨z, hz, rfl⟩ := Option.map_eq_some_iff.mp hy
                have hzl := hmem z (List.mem_of_getElem? hz)
                walk_at "s"
                refine fun H5 s5 => ?_
                walk_at "s"
                exact p.yes s5 nL (by omega) (by rw [hz]; rfl)
              · intro H3 p
                have e := p.lst
                have ps := p.same
                rw [hml, fm_get] at e
                refine ⟨L, (toldW W).map (fun w => thingL (wcs w)), rfl, SqL.of (by rw [e, List.map_map]; rfl), ?_⟩
                rw [show ((toldW W).map (fun w => thingL (wcs w))).all id = (toldW W).all (fun w => thingL (wcs w)) by rw [List.all_map]; rfl]
                by_cases c6 : (toldW W).all (fun w => thingL (wcs w)) = true
                · rw [c6]
                  walk_at "s"
                  first | exact rfl | exact c6 | exact ⟨ps, rfl⟩ | exact ⟨ps, c6⟩
                · simp only [Bool.not_eq_true] at c6
                  rw [c6]
                  walk_at "s"
                  refine ⟨(by show 1 ≤ 1000; decide), fun q nq => ?_⟩
                  refine ⟨q, .int 0, rfl, upd_same, fun d nd ned => ?_⟩
                  exact raised (Same.refl _) nq nd ned (fun H' d s' e' => kE (fun f => absurd f.2.2.2.2.2 (by rw [c6]; decide)) _ d (s03.trans (ps.trans s')) e')
            · rintro σ' H3 ⟨rfl, s4, c6⟩
              have hF : FormW W := ⟨c1, c2, c3, c4, c5, c6⟩
              have k := k hF
              have s04 := s03.trans s4
              have e14 := s4 _ _ e1
              have e24 := s4 _ _ e23
              have hth := fun w hw => List.all_eq_true.mp c6 w hw
              clear e1 e23 s4 s03 hbad
              obtain ⟨nl, hnl, _⟩ := int_of_num c5
              have hnl' : intText? (lastW W) = some (wordI (lastW W)) := by
                unfold wordI
                rw [hnl]
                rfl
              have hll := len_of_num c5
              refine ⟨fun σ' H4 => ∃ ph, σ' = [some (.str x), some (.ref pw), some (.int (barW W)), some (.ref pt), some (.ref ph), none] ∧ Same H3 H4 ∧ H4 ph = some (.lst ((thingsW W).map ov)), ?_, ?_⟩
              · walk_at "s"
                refine ⟨⟨_, SqL.of e24⟩, fun L nL => lc_it walk_list (LcP H3 L fun i => ((toldW W)[i]?).map fun w => ov (wordV w)) (LcP.zero nL) (fun i H' _ p => SqL.of (p.same _ _ e24)) ?_ ?_⟩
                · rintro i y H4 H5 hi p ⟨rfl, hy⟩
                  rw [List.getElem?_map] at hy
                  obtain ⟨z, hz, rfl⟩ := Option.map_eq_some_iff.mp hy
                  have hzl := hmem z (List.mem_of_getElem? hz)
                  have hzt := hth z (List.mem_of_getElem? hz)
                  walk_at "s"
                  rw [str_eq]
                  by_cases c7 : z = "-"
                  · rw [decide_eq_true c7]
                    walk_at "s"
                    exact p.yes (Same.refl _) nL (by omega) (by rw [hz]; exact congrArg (fun t => some (ov t)) (if_pos c7))
                  · rw [decide_eq_false c7]
                    walk_at "s"
                    obtain ⟨n, hn⟩ := int_of_thing hzt c7
                    have := len_of_thing hzt
                    refine ⟨z, n, rfl, hn, by omega, ?_⟩
                    have hvz : wordV z = some n := (if_neg c7).trans (congrArg some (show (intText? z).getD 0 = n by rw [hn]; rfl))
                    exact p.yes (Same.refl _) nL (by omega) (by rw [hz]; exact congrArg (fun t => some (ov t)) hvz)
                · intro H4 p
                  have e := p.lst
                  have ps := p.same
                  rw [hml, fm_get] at e
                  refine ⟨L, rfl, ps, ?_⟩
                  rw [e]
                  unfold thingsW
                  rw [List.map_map]
                  rfl
              · rintro σ' H4 ⟨ph, rfl, s5, e5⟩
                have e15 := s5 _ _ e14
                clear e14 e24
                have hthl := things_len c4
                have hthm : ((thingsW W).map ov).length = (thingsW W).length := List.length_map ..
                walk_at "s"
                walk_at "new"
                rename_i p6 n6 H6 s6 e6
                rw [cut_to (by rw [hthm]; omega), ← List.map_take] at e6
                have e56 := s6 _ _ e5
                have e16 := s6 _ _ e15
                clear e5 e15
                walk_at "s"
                walk_at "new"
                rename_i p7 n7 H7 s7 e7
                rw [cut_from (by rw [hthm]; omega), ← List.map_drop] at e7
                have e17 := s7 _ _ e16
                have e67 := s7 _ _ e6
                clear e16 e56 e6
                walk_at "s"
                refine ⟨by omega, ?_⟩
                refine ⟨(by show 3 ≤ sizeLine; decide), fun p8 n8 => ?_⟩
                generalize hq : upd _ p8 _ = H8
                obtain ⟨s8, e8⟩ := new_facts n8 hq
                clear hq
                exact k H8 p8 p6 p7 (s04.trans (s5.trans (s6.trans (s7.trans s8)))) e8 (s8 _ _ e67) (s8 _ _ e7)
end
end My

namespace My
open PySem PySem.Spec PyProof.Rows L2
local macro_rules | `(tactic| walk_at "side") => `(tactic| first | (dsimp only; omega) | exact ⟨by omega, by omega⟩ | exact Or.inl ⟨by omega, by omega⟩ | exact Or.inr ⟨by omega, by omega⟩ | decide)
local macro_rules | `(tactic| walk_at "sq") => `(tactic| first | assumption | exact SqL.of (by assumption) | exact SqT.of (by assumption) | (refine L2.Same.seq (by assumption) ?_; walk_at "sq") | (refine L2.Same.seqT (by assumption) ?_; walk_at "sq") | exact Or.inl (by walk_at "sq") | exact Or.inr (by walk_at "sq"))
local macro_rules | `(tactic| walk_at "1") => `(tactic| first
  | refine ⟨_, rfl, iteT ?_⟩
  | refine ⟨_, rfl, iteF ?_⟩
  | refine ⟨_, rfl, ?_⟩
  | refine ⟨_, _, rfl, rfl, (by walk_at "side"), ?_⟩
  | refine ⟨_, _, rfl, rfl, ?_⟩
  | refine ⟨_, _, _, _, true, rfl, .ty _, .base (.int _), kit_ty (a := "int") (by decide +kernel), ?_⟩
  | refine ⟨_, _, _, _, false, rfl, .ty _, .base (.int _), kit_ty (a := "int") (by decide +kernel), ?_⟩
  | refine ⟨_, _, rfl, (by walk_at "sq"), ?_⟩
  | refine ⟨_, _, _, _, rfl, rfl, (by walk_at "sq"), (by first | rfl | assumption), ?_⟩
  | refine Or.inl ⟨_, _, _, _, rfl, rfl, (by walk_at "sq"), (by first | rfl | assumption), ?_⟩
  | refine Or.inr (Or.inl ⟨_, _, _, _, rfl, rfl, (by walk_at "sq"), (by first | rfl | assumption), ?_⟩)
  | refine ⟨_, _, rfl, Or.inl ⟨(by walk_at "sq"), ?_⟩⟩
  | refine ⟨rfl, ?_⟩
  | refine iteT ?_
  | refine iteF ?_
  | refine ⟨_, _, _, _, _, rfl, (by assumption), (by assumption), (by assumption), (by assumption), ?_⟩
  | refine Or.inl ⟨_, rfl, ?_⟩
  | refine Or.inr ⟨_, rfl, ?_⟩
  | refine ⟨_, _, rfl, (by walk_at "side"), ?_⟩
  | refine ⟨_, _, rfl, ?_⟩)
local macro_rules | `(tactic| walk_at "fld") => `(tactic| skip)
local macro_rules | `(tactic| walk_at "s") => `(tactic| repeat walk_at "1")
local macro_rules | `(tactic| walk_at "size") => `(tactic| first | exact Nat.le_of_ble_eq_true rfl | (simp only [List.length_map, List.length_append, List.length_cons, List.length_nil]; omega))
local macro_rules | `(tactic| walk_at "new") => `(tactic| (first | refine ⟨(by walk_at "size"), fun p hp => ?_⟩ | refine fun p hp => ?_); (generalize hq : upd _ p _ = H1); (obtain ⟨s, e⟩ := new_facts hp hq); clear hq)
local macro_rules | `(tactic| walk_at "1") => `(tactic| refine And.intro (by assumption) ?_)

open TL
section
variable {X : Cx} {CX : CXT} {k : Nat} {f C : Addr} {fd : FuncData} {ps : List Str} {sp : Sp} {E : L2.St → XK} {x : Str} {p pos : Pos} {e : Expr} {es : List Expr} {t : TA} {ds : List Value} {dvs : List V}
/-- an object is made, and what its __init__ lets out is told with the slots -/
def tMakeS (C : Addr) (sp : Sp) (dvs : List V) (E : L2.St → XK) (t : TA) : TE := fun σ H Q => t σ H fun vs H1 => ∀ x dx, H1 x = none → H1 dx = none → dx ≠ x →
  sp (.ref x :: (vs ++ dvs)) (upd (upd H1 dx (.own x)) x (.ins C dx [])) (fun v H2 => v = .non ∧ Q (.ref x) H2) (E σ)
theorem pe_makeS (M : Mk X.K C f) (F : FnOk X.prog X.w X.K X.mg X.base CX k f fd ps sp) (hr : Room (k + 1) X.A) (isGlob : Gl X x) (stands : X.mg x = some (.ref C)) (hb : Binds X.K fd ps ds) (hd : Vals dvs ds) (hx : ∀ σ, PassesAt CX X σ (E σ))
    (ha : PA X (e :: es) t) (notDebug : (x == ("__debug__" : Str)) = false := by decide) (first1 : starEach (e :: es) X.env = (false, eval e X.env) :: starEach es X.env := by rfl) (noStar : (backTo pos (starEach es X.env)).any (·.1) = false := by rfl) :
    PE X (.Call (.Name x p) (e :: es) [] pos) (tMakeS C sp dvs E t) := by
  refine ⟨fun pins s σ H Q I red => ?_⟩
  refine wpAny_Call_Name_kw (ld_glob I isGlob stands ?_ notDebug)
  refine PySem.W.callWith_K (h₀ := X.base) I.ok.mod.kin M.kp (thn (ha.run pos pins s σ H _ I red) fun us s1 ⟨vs, H1, J1, r, q⟩ => ⟨J1.kIn, ?_⟩) first1 noStar
  have hq := q (s1.heap.objs.size + 1) s1.heap.objs.size (J1.hok.fresh (Nat.le_succ _)) (J1.hok.fresh (Nat.le_refl _)) (Nat.ne_of_lt (Nat.lt_succ_self _))
  have J2 := Inv.made (C := C) J1
  have r2 : Vals (V.ref (s1.heap.objs.size + 1) :: (vs ++ dvs)) (Value.ref (s1.heap.objs.size + 1) :: (us ++ ds)) := .cons rfl (r.append hd)
  have hl : (Value.ref (s1.heap.objs.size + 1) :: us ++ ds).length = ps.length := by
    have e := r2.length
    rw [F.len _ _ _ _ hq] at e
    exact e.symm
  refine wpAny_call (make_map (f := f) J1.kIn M.makes M.init (beq_iff_eq.mp M.fn) (codeAny_mono (F.run _ X.stack _ _ ⟨Value.ref (s1.heap.objs.size + 1) :: us, []⟩ (Value.ref (s1.heap.objs.size + 1) :: (us ++ ds)) _ _ (E σ) (hr.make C us [])
    (J2.env0.make C us []) (hb _ (Value.ref (s1.heap.objs.size + 1) :: us) J2.kIn hl) r2 hq) fun r s' ends => ?_))
  cases r with
  | error e => exact hx σ pins _ _ e s' J2 ends
  | ok fl =>
    cases fl with
    | ret u =>
      obtain ⟨v, K3, J3, rv, ev, rest⟩ := J2.after ends
      subst ev
      exact ⟨rv, ⟨V.ref (s1.heap.objs.size + 1), K3, J3, rfl, rest⟩⟩
    | next => exact ends.elim
    | brk => exact ends.elim
    | cont => exact ends.elim
end

/-- what a line is due to give: no text of a row, no row, or a row's arguments -/
inductive Due where
  | text
  | row
  | args (f a : List (Option Int)) (m : Int)
instance (W : List Str) : Decidable (FormW W) := by unfold FormW; infer_instance
def firstW (W : List Str) : List (Option Int) := (thingsW W).take (barW W)
def againW (W : List Str) : List (Option Int) := (thingsW W).drop (barW W)
def moreW (W : List Str) : Int := wordI (lastW W)
noncomputable def wrongW (W : List Str) : Option Str := wordA (some ((firstW W).map some)) (some ((againW W).map some)) (some (some (moreW W)))
noncomputable def dueW (W : List Str) : Due := if FormW W then (if wrongW W = none then .args (firstW W) (againW W) (moreW W) else .row) else .text
def LineAt (C : Addr) (H : Hp) (v : V) (d : Due) : Prop := (OddAt C H v ∧ d = .text) ∨ ∃ x : Str, v = .str x ∧ x.length ≤ 10000 ∧ (Txt.split x " ").length < 400 ∧ (∀ w ∈ Txt.split x " ", w.length ≤ 10000) ∧ d = dueW (Txt.split x " ")
theorem LineAt.same {C : Addr} {H H' : Hp} {v : V} {d : Due} (h : LineAt C H v d) (s : Same H H') : LineAt C H' v d := h.imp (fun q => ⟨q.1.same s, q.2⟩) id
structure RowMk (P : Program) (w : World) (K : PySem.W.Frag) (mg : Str → Option Value) (base : Heap) (C D : Addr) : Prop where
  ex : ∃ f fd, FnOk P w K mg base (L2.CX P w) 4 f fd ["self", "first", "again", "more"] (spInit C D) ∧ mg "Row" = some (.ref C) ∧ Mk K C f ∧ Binds K fd ["self", "first", "again", "more"] []
section
variable {P : Program} {w : World} {K : PySem.W.Frag} {mg : Str → Option Value} {base : Heap} {C D U : Addr}
abbrev s_Row_read : Stmt := inClass (topS 13) 1
theorem sc_Row_read : FnScope ["text", "first", "again", "more"] ["text"] (defScope s_Row_read) := ⟨rfl, rfl, rfl, by decide +kernel, rfl, by decide +kernel, by decide +kernel⟩
/-- a row's object, made of these arguments -/
def MadeK (C : Addr) (H : Hp) (f a : List (Option Int)) (m : Int) (Q : VK) : Prop := ∀ H' p f' a' m', Same H H' → RowAt C H' p f' a' m' → MadeOf f a m f' a' m' → Q (.ref p) H'
def spRead (C D U : Addr) : Sp := fun vs H Q E => ∃ v d, vs = [v] ∧ LineAt C H v d ∧ (match d with
  | .text => OutT U H E
  | .row => ∀ H' d w, Same H H' → H' d = some (.xd [("word", .str w)]) → E (.ref D) (some d) H'
  | .args f a m => MadeK C H f a m Q)
theorem again_len {W : List Str} (h : FormW W) : (againW W).length = W.length - 3 - barW W ∧ againW W ≠ [] := by
  have h4 := h.2.2.2.1
  have e : (againW W).length = W.length - 3 - barW W := by
    unfold againW
    rw [List.length_drop, things_len h4]
  refine ⟨e, fun q => ?_⟩
  rw [q] at e
  simp only [List.length_nil] at e
  omega
theorem first_len {W : List Str} (h : FormW W) : (firstW W).length = barW W := by
  have h4 := h.2.2.2.1
  unfold firstW
  rw [List.length_take, things_len h4]
  omega
theorem more_in {W : List Str} (h : FormW W) : 0 ≤ moreW W ∧ moreW W < 2 ^ 60 := by
  obtain ⟨n, e, hn⟩ := int_of_num h.2.2.2.2.1
  have e2 : moreW W = (n : Int) := by
    unfold moreW wordI
    rw [e]
    rfl
  rw [e2]
  exact ⟨by omega, by omega⟩
set_option maxHeartbeats 8000000 in
theorem ok_read {f1 : Addr} {fd : FuncData} (F : Fun K "read" "Row.read" s_Row_read f1 fd) (R : RowMk P w K mg base C D) (o_arguments_told : OwnX P w K mg base "_arguments_told" 3 ["text"] (spArgs C U)) : FnOk P w K mg base (L2.CX P w) 6 f1 fd ["text"] (spRead C D U) := by
  obtain ⟨fR, fdR, FR, mR, MR, bR⟩ := R.ex
  refine F.okX sc_Row_read (fun vs H Q E h => ?_) (fun cdv A outer s H vs Q E hr h => ?_)
  · obtain ⟨_, _, rfl, _⟩ := h
    rfl
  · obtain ⟨v, d, rfl, hL, k⟩ := h
    refine ⟨_, (pss_cons (ps_asg (pe_ownX o_arguments_told (hr.mono (by decide)) (takes_of rfl rfl rfl rfl) (pa_cons (pv 0) pa_nil)) (pg_tup (by rfl) (pgs_cons (pg_name (i := 1) sc_Row_read.nd rfl (Or.inl rfl)) (pgs_cons (pg_name (i := 2) sc_Row_read.nd rfl (Or.inl rfl)) (pgs_cons (pg_name (i := 3) sc_Row_read.nd rfl (Or.inl rfl)) pgs_nil)))))
  (pss_one (ps_ret (pe_makeS MR FR (hr.mono (by decide)) rfl mR bR .nil (fun σ => passAt (takes_of rfl rfl rfl rfl) σ) (pa_cons (pv 1) (pa_cons (pv 2) (pa_cons (pv 3) pa_nil))))))), ?_⟩
    refine ⟨_, rfl, ?_⟩
    rcases hL with ⟨hO, rfl⟩ | ⟨x, rfl, hx, hWl, hw, rfl⟩
    · exact ⟨_, rfl, Or.inl ⟨hO, k⟩⟩
    · refine ⟨_, rfl, Or.inr ⟨x, rfl, hx, hw, fun hn => ?_, fun hF H1 p pa pb s1 e1 ea eb => ?_⟩⟩
      · rw [show dueW (Txt.split x " ") = .text from if_neg hn] at k
        exact k
      · generalize Txt.split x " " = W at *
        have h4 := hF.2.2.2.1
        have hfl := first_len hF
        obtain ⟨hal, hne⟩ := again_len hF
        obtain ⟨m0, m1⟩ := more_in hF
        have ed : dueW W = if wrongW W = none then .args (firstW W) (againW W) (moreW W) else .row := if_pos hF
        rw [ed] at k
        walk_at "s"
        refine fun x dx nx ndx nex => ?_
        have sx : Same H1 (upd (upd H1 dx (.own x)) x (.ins C dx [])) := fun b o e => by
          rw [upd_ne (ne_of_none e nx), upd_ne (ne_of_none e ndx)]
          exact e
        refine ⟨H1, x, dx, .ref pa, .ref pb, .int (moreW W), rfl, nx, sx, upd_same, ?_⟩
        cases hwr : wrongW W with
        | some w' =>
          rw [hwr] at k
          exact Or.inl ⟨some ((firstW W).map some), some ((againW W).map some), some (some (moreW W)), w', .seq (Or.inl ea) (els_ov _ _), .seq (Or.inl eb) (els_ov _ _), .int _, hwr, fun H' d s' e' => k H' d w' (s1.trans s') e'⟩
        | none =>
          rw [hwr] at k
          exact Or.inr ⟨pa, pb, firstW W, againW W, moreW W, rfl, rfl, rfl, Or.inl ea, Or.inl eb, hwr, hne, by omega, by omega, m0, m1, fun H' f' a' m' s' r' md => ⟨rfl, k H' x f' a' m' (s1.trans s') r' md⟩⟩
/-- Row.read stands at the class -/
structure RdOk (P : Program) (w : World) (K : PySem.W.Frag) (mg : Str → Option Value) (base : Heap) (C D U : Addr) : Prop where
  ex : ∃ f fd p, FnOk P w K mg base (L2.CX P w) 6 f fd ["text"] (spRead C D U) ∧ SMet K C "read" p f ∧ Binds K fd ["text"] [] ∧ mg "Row" = some (.ref C)
/-- the classes of errors -/
structure HeardC (K : PySem.W.Frag) (mg : Str → Option Value) (D U : Addr) : Prop where
  X : ExcC K U
  na : PySem.W.findIn K (.ref U) "at" = some none
  uu : PySem.W.exmOne K (.ref U) (.ref U) = some true
  du : PySem.W.exmOne K (.ref D) (.ref U) = some false
  dd : PySem.W.exmOne K (.ref D) (.ref D) = some true
  gD : mg "InvalidRow" = some (.ref D)
  gU : mg "InvalidText" = some (.ref U)
def tsAt (U : Addr) : Addr → Value → Option Addr → TS := fun a cls d => tAsg (tIf (tTest (tOp rEq (tXf a cls d U "at" (tVar 2)) (tC (.int 0)))) (tC (.str "text")) (tC (.str "other"))) (gName 1)
abbrev s_law_heard : Stmt := topS 36
theorem sc_law_heard : FnScope ["line", "found", "e"] ["line"] (defScope s_law_heard) := ⟨rfl, rfl, rfl, by decide +kernel, rfl, by decide +kernel, by decide +kernel⟩
def spHeard (C : Addr) : Sp := fun vs H Q _ => ∃ v d, vs = [v] ∧ LineAt C H v d ∧ (match d with
  | .text => ∀ H', Same H H' → Q (.str "text") H'
  | .row => ∀ H', Same H H' → Q (.str "row") H'
  | .args f a m => MadeK C H f a m Q)
set_option maxHeartbeats 8000000 in
theorem ok_heard (F : Df K mg "_law_heard" s_law_heard ["line"]) (Z : HeardC K mg D U) (R : RdOk P w K mg base C D U) : Own P w K mg base "_law_heard" 7 ["line"] (spHeard C) := by
  obtain ⟨fR, fdR, pR, FR, SR, bR, mR⟩ := R.ex
  refine F.own sc_law_heard (fun vs H Q E h => ?_) (fun fa cdv A outer s H vs Q E hr h => ?_)
  · obtain ⟨_, _, rfl, _⟩ := h
    rfl
  · obtain ⟨v, d, rfl, hL, k⟩ := h
    refine ⟨_, (pss_cons (ps_set (i := 1) sc_law_heard.nd rfl (Or.inl rfl) pe_str)
      (pss_cons (ps_try_cls (ks := [⟨.ref U, some 2, tsAt U⟩, ⟨.ref D, none, fun _ _ _ => tAsg (tC (.str "row")) (gName 1)⟩]) (tb := fun W' => tAsg (tSMeth C (spRead C D U) (WE W') (tC (.ref C)) (tCons (tVar 0) tNil)) (gName 1)) (Wout := fun _ _ _ _ => False) rfl rfl sc_law_heard.nd takes0
          (fun W' pn xe tk _ => pss_one (ps_set (i := 1) sc_law_heard.nd rfl (Or.inl rfl) (by exact (pe_smeth (pe_glob (v := .ref C) (by rfl) mR rfl) SR FR (hr.mono (by decide)) bR (fun σ => passAt tk σ) (by exact (pa_cons (pv 0) pa_nil)))))) ?_)
      (pss_one (ps_ret (pv 1))))), ?_⟩
    · refine .cons ⟨_, _, _, _, _, _, rfl, ⟨rfl, by decide, Or.inl Z.gU⟩, (fun a oe cls d pn hz hf => ?_), Or.inr ⟨"e", 2, rfl, rfl, rfl, rfl⟩⟩ (.cons ⟨_, _, _, _, _, _, rfl, ⟨rfl, by decide, Or.inl Z.gD⟩, (fun a oe cls d pn hz hf => ?_), Or.inl ⟨rfl, rfl⟩⟩ .nil)
      · show PSs _ _ (tAsg (tIf (tTest (tOp rEq (tXf a cls d U "at" (tVar 2)) (tC (.int 0)))) (tC (.str "text")) (tC (.str "other"))) (gName 1))
        refine pss_one (ps_set (i := 1) sc_law_heard.nd rfl (Or.inl rfl) ?_)
        exact (pe_ifExp (pt_cmpR op_eq (pe_xf ⟨Z.X.hg, Z.X.hk, Z.X.hs, Z.X.hd⟩ Z.na hz hf (pv 2)) pe_int (nomark _)) pe_str pe_str)
      · exact pss_one (ps_set (i := 1) sc_law_heard.nd rfl (Or.inl rfl) pe_str)
    trace_state
    refine ⟨rfl, _, rfl, v, d, rfl, hL, ?_⟩
    cases d with
    | text =>
      intro H' d s' e'
      refine ⟨true, Z.uu, fun _ a0 _ => ?_, fun z => nomatch z⟩
      refine ⟨_, rfl, rfl, rfl, _, _, _, rfl, e', rfl, ?_⟩
      walk_at "s"
      exact k _ s'
    | row =>
      intro H' d w' s' e'
      refine ⟨false, Z.du, (fun z => nomatch z), fun _ => ⟨true, Z.dd, fun _ a0 _ => ?_, fun z => nomatch z⟩⟩
      refine ⟨_, rfl, ?_⟩
      exact k _ s'
    | args f a m =>
      intro H' p f' a' m' s' r' md
      refine ⟨_, rfl, ?_⟩
      exact k _ p _ _ _ s' r' md
end
end My

namespace My
open PySem PySem.Spec PyProof.Rows L2
local macro_rules | `(tactic| walk_at "side") => `(tactic| first | (dsimp only; omega) | exact ⟨by omega, by omega⟩ | exact Or.inl ⟨by omega, by omega⟩ | exact Or.inr ⟨by omega, by omega⟩ | decide)
local macro_rules | `(tactic| walk_at "sq") => `(tactic| first | assumption | exact SqL.of (by assumption) | exact SqT.of (by assumption) | (refine L2.Same.seq (by assumption) ?_; walk_at "sq") | (refine L2.Same.seqT (by assumption) ?_; walk_at "sq") | exact Or.inl (by walk_at "sq") | exact Or.inr (by walk_at "sq"))
local macro_rules | `(tactic| walk_at "1") => `(tactic| first
  | refine ⟨_, rfl, iteT ?_⟩
  | refine ⟨_, rfl, iteF ?_⟩
  | refine ⟨_, rfl, ?_⟩
  | refine ⟨_, _, rfl, rfl, (by walk_at "side"), ?_⟩
  | refine ⟨_, _, rfl, rfl, ?_⟩
  | refine ⟨_, _, _, _, true, rfl, .ty _, .base (.int _), kit_ty (a := "int") (by decide +kernel), ?_⟩
  | refine ⟨_, _, _, _, false, rfl, .ty _, .base (.int _), kit_ty (a := "int") (by decide +kernel), ?_⟩
  | refine ⟨_, _, rfl, (by walk_at "sq"), ?_⟩
  | refine ⟨_, _, _, _, rfl, rfl, (by walk_at "sq"), (by first | rfl | assumption), ?_⟩
  | refine Or.inl ⟨_, _, _, _, rfl, rfl, (by walk_at "sq"), (by first | rfl | assumption), ?_⟩
  | refine Or.inr (Or.inl ⟨_, _, _, _, rfl, rfl, (by walk_at "sq"), (by first | rfl | assumption), ?_⟩)
  | refine ⟨_, _, rfl, Or.inl ⟨(by walk_at "sq"), ?_⟩⟩
  | refine ⟨rfl, ?_⟩
  | refine iteT ?_
  | refine iteF ?_
  | refine ⟨_, _, _, _, _, rfl, (by assumption), (by assumption), (by assumption), (by assumption), ?_⟩
  | refine Or.inl ⟨_, rfl, ?_⟩
  | refine Or.inr ⟨_, rfl, ?_⟩
  | refine ⟨_, _, rfl, (by walk_at "side"), ?_⟩
  | refine ⟨_, _, rfl, ?_⟩)
local macro_rules | `(tactic| walk_at "fld") => `(tactic| skip)
local macro_rules | `(tactic| walk_at "s") => `(tactic| repeat walk_at "1")
local macro_rules | `(tactic| walk_at "size") => `(tactic| first | exact Nat.le_of_ble_eq_true rfl | (simp only [List.length_map, List.length_append, List.length_cons, List.length_nil]; omega))
local macro_rules | `(tactic| walk_at "new") => `(tactic| (first | refine ⟨(by walk_at "size"), fun p hp => ?_⟩ | refine fun p hp => ?_); (generalize hq : upd _ p _ = H1); (obtain ⟨s, e⟩ := new_facts hp hq); clear hq)
local macro_rules | `(tactic| walk_at "1") => `(tactic| refine And.intro (by assumption) ?_)

open TL
/-! ### when arguments make a row -/
def pairBad : Option Int → Option Int → Bool
  | none, _ => false
  | some _, none => true
  | some i, some j => decide (j < i)
def chB : Option Int → List (Option Int) → Bool
  | _, [] => true
  | l, y :: r => !pairBad l y && chB y r
theorem rises_chB : ∀ (l : Option Int) (xs : List (Option Int)), risesFrom l (xs.map some) = chB l xs
  | none, [] => rfl
  | some _, [] => rfl
  | none, x :: r => by
    show risesFrom x (r.map some) = (!false && chB x r)
    rw [rises_chB x r]
    rfl
  | some _, none :: r => rfl
  | some l, some x :: r => by
    show (if x < l then false else risesFrom (some x) (r.map some)) = (!decide (x < l) && chB (some x) r)
    rw [rises_chB (some x) r]
    by_cases h : x < l
    · rw [if_pos h, decide_eq_true h]
      rfl
    · rw [if_neg h, decide_eq_false h]
      rfl
theorem chB_app : ∀ (F A : List (Option Int)) (l : Option Int), chB l (F ++ A) = (chB l F && chB (F.getLast?.getD l) A)
  | [], A, l => by
    show chB l A = (true && chB l A)
    rfl
  | x :: F, A, l => by
    rw [List.cons_append, List.getLast?_cons]
    show (!pairBad l x && chB x (F ++ A)) = ((!pairBad l x && chB x F) && chB (F.getLast?.getD x) A)
    rw [chB_app F A x, Bool.and_assoc]
theorem chB_none {l : Option Int} : ∀ {A : List (Option Int)}, chB l A = true → chB none A = true
  | [], _ => rfl
  | y :: r, h => by
    have h' : (!pairBad l y && chB y r) = true := h
    rw [Bool.and_eq_true] at h'
    show (!false && chB y r) = true
    rw [h'.2]
    rfl
theorem chB_at : ∀ (S : List (Option Int)) (l : Option Int), chB l S = true ↔ (∀ y, S[0]? = some y → pairBad l y = false) ∧ ∀ i x y, S[i]? = some x → S[i + 1]? = some y → pairBad x y = false
  | [], l => ⟨fun _ => ⟨fun y h => (nomatch (show none = some y from h)), fun i x y h => (nomatch (show none = some x by simpa using h))⟩, fun _ => rfl⟩
  | z :: S, l => by
    have ih := chB_at S z
    show (!pairBad l z && chB z S) = true ↔ _
    rw [Bool.and_eq_true, Bool.not_eq_true', ih]
    constructor
    · rintro ⟨h1, h2, h3⟩
      refine ⟨fun y hy => ?_, fun i x y hx hy => ?_⟩
      · rw [← Option.some.inj (show some z = some y from hy)]
        exact h1
      · cases i with
        | zero =>
          obtain rfl := Option.some.inj (show some z = some x from hx)
          exact h2 y hy
        | succ i => exact h3 i x y hx hy
    · rintro ⟨h1, h2⟩
      exact ⟨h1 z rfl, fun y hy => h2 0 z y rfl hy, fun i x y hx hy => h2 (i + 1) x y hx hy⟩
theorem chB_iff (S : List (Option Int)) : chB none S = true ↔ ∀ i x y, S[i]? = some x → S[i + 1]? = some y → pairBad x y = false := by
  rw [chB_at S none]
  exact ⟨fun h => h.2, fun h => ⟨fun _ _ => rfl, h⟩⟩
theorem riseO_some (F : List (Option Int)) : riseO (F.map some) = if chB none F = true then some F else none := by
  unfold riseO
  rw [rises_chB, List.map_map, show ((fun x => x.getD none) ∘ some : Option Int → Option Int) = id from rfl, List.map_id]
/-- the law's own look at the turn -/
def TurnIn (A : List (Option Int)) (M : Int) : Prop := match A.head?.join with
  | none => A.getLast?.join = none ∧ M = 0
  | some lo => (A.getLast?.join).getD 0 ≤ lo + M
open Classical in
theorem wrong_iff {F A : List (Option Int)} {M : Int} (hM : 0 ≤ M) (hA : A ≠ []) : wordA (some (F.map some)) (some (A.map some)) (some (some M)) = none ↔ chB none (F ++ A) = true ∧ TurnIn A M := by
  unfold wordA
  rw [Option.bind_some, Option.bind_some, riseO_some, riseO_some, chB_app]
  by_cases hF : chB none F = true
  · rw [if_pos hF]
    by_cases hA' : chB none A = true
    · rw [if_pos hA', hF, Bool.true_and]
      show (if A = [] then some wA else wordB F A (some (some M))) = none ↔ _
      rw [if_neg hA]
      cases A with
      | nil => exact absurd rfl hA
      | cons y r =>
        have hy : ((y :: r).head?).join = y := rfl
        have hl : F.getLast?.getD none = F.getLast?.join := by cases F.getLast? <;> rfl
        have hr : chB y r = true := by
          have : (!false && chB y r) = true := hA'
          rw [Bool.and_eq_true] at this
          exact this.2
        have hc : chB (F.getLast?.getD none) (y :: r) = !pairBad (F.getLast?.join) y := by
          show (!pairBad _ y && chB y r) = _
          rw [hr, hl, Bool.and_true]
        rw [hc]
        unfold wordB TurnIn
        rw [hy]
        cases y with
        | none =>
          show (if (none :: r).getLast?.join ≠ none ∨ F.getLast?.join ≠ none then some wA else if some (some M) = some (some 0) then none else some wM) = none ↔ _ ∧ ((none :: r).getLast?.join = none ∧ M = 0)
          by_cases h1 : (none :: r).getLast?.join = none
          · by_cases h2 : F.getLast?.join = none
            · rw [if_neg (fun q => q.elim (fun z => z h1) (fun z => z h2)), h2]
              by_cases h3 : M = 0
              · rw [if_pos (by rw [h3])]
                exact ⟨fun _ => ⟨rfl, h1, h3⟩, fun _ => rfl⟩
              · rw [if_neg (fun q => h3 (Option.some.inj (Option.some.inj q)))]
                exact ⟨fun q => (nomatch q), fun q => absurd q.2.2 h3⟩
            · rw [if_pos (Or.inr h2)]
              refine ⟨fun q => (nomatch q), fun q => ?_⟩
              exfalso
              cases h4 : F.getLast?.join with
              | none => exact h2 h4
              | some e =>
                rw [h4] at q
                exact absurd (show false = true from q.1) Bool.false_ne_true
          · rw [if_pos (Or.inl h1)]
            exact ⟨fun q => (nomatch q), fun q => absurd q.2.1 h1⟩
        | some lo =>
          show (if (∃ e, F.getLast?.join = some e ∧ lo < e) then some wA else if (∃ k, some (some M) = some (some k) ∧ 0 ≤ k ∧ ((some lo :: r).getLast?.join).getD 0 - lo ≤ k) then none else some wM) = none ↔ _ ∧ ((some lo :: r).getLast?.join).getD 0 ≤ lo + M
          by_cases h1 : ∃ e, F.getLast?.join = some e ∧ lo < e
          · rw [if_pos h1]
            refine ⟨fun q => (nomatch q), fun q => ?_⟩
            obtain ⟨e, h2, h3⟩ := h1
            rw [h2] at q
            have q1 : (!decide (lo < e)) = true := q.1
            rw [decide_eq_true h3] at q1
            exact absurd q1 (by decide)
          · rw [if_neg h1]
            have hb : (!pairBad (F.getLast?.join) (some lo)) = true := by
              cases h4 : F.getLast?.join with
              | none => rfl
              | some e =>
                show (!decide (lo < e)) = true
                rw [decide_eq_false (fun z => h1 ⟨e, h4, z⟩)]
                rfl
            by_cases h2 : ((some lo :: r).getLast?.join).getD 0 ≤ lo + M
            · rw [if_pos ⟨M, rfl, hM, by omega⟩]
              exact ⟨fun _ => ⟨hb, h2⟩, fun _ => rfl⟩
            · rw [if_neg (fun ⟨k, q1, _, q3⟩ => h2 (by
                have := Option.some.inj (Option.some.inj q1)
                omega))]
              exact ⟨fun q => (nomatch q), fun q => absurd q.2 h2⟩
    · rw [if_neg hA']
      refine ⟨fun q => (nomatch q), fun q => ?_⟩
      rw [Bool.and_eq_true] at q
      exact absurd (chB_none q.1.2) hA'
  · rw [if_neg hF]
    refine ⟨fun q => (nomatch q), fun q => ?_⟩
    rw [Bool.and_eq_true] at q
    exact absurd q.1.1 hF
/-! ### the law's own look at the words -/
theorem thing_or (w : Str) : thingL (wcs w) = (decide (w = "-") || intL (wcs w)) := by
  rw [intL_thing]
  by_cases h : w = "-"
  · rw [decide_eq_true h, h]
    decide
  · rw [decide_eq_false h, decide_eq_false (fun q => h (eq_m.mpr q))]
    rfl
theorem num_head {w : Str} : numL2 12 (wcs w) = true ↔ intL (wcs w) = true ∧ (wcs w).head? ≠ some 45 := by
  constructor
  · intro h
    have h1 := (numL2_iff _ _).mp h
    have hh : (wcs w).head? ≠ some 45 := fun q => by
      cases hw : wcs w with
      | nil => rw [hw] at q; cases q
      | cons c r =>
        rw [hw] at q h1
        have := h1.2.2.2
        rw [List.all_cons, Option.some.inj q, Bool.and_eq_true] at this
        exact absurd this.1 (by decide)
    refine ⟨?_, hh⟩
    rw [intL_thing, decide_eq_false (fun q => hh (by rw [q]; rfl)), show thingL (wcs w) = numL2 12 (wcs w) from if_neg (fun q => hh q.1), h]
    rfl
  · rintro ⟨h, hh⟩
    rw [intL_thing, Bool.and_eq_true, show thingL (wcs w) = numL2 12 (wcs w) from if_neg (fun q => hh q.1)] at h
    exact h.2
theorem int_ne {w : Str} (h : intL (wcs w) = true) : wcs w ≠ [] := fun q => by
  have := ((intL_iff _).mp h).1
  rw [q] at this
  exact absurd this (by decide)
end My

namespace My
open PySem PySem.Spec PyProof.Rows L2
local macro_rules | `(tactic| walk_at "side") => `(tactic| first | (dsimp only; omega) | exact ⟨by omega, by omega⟩ | exact Or.inl ⟨by omega, by omega⟩ | exact Or.inr ⟨by omega, by omega⟩ | decide)
local macro_rules | `(tactic| walk_at "sq") => `(tactic| first | assumption | exact SqL.of (by assumption) | exact SqT.of (by assumption) | (refine L2.Same.seq (by assumption) ?_; walk_at "sq") | (refine L2.Same.seqT (by assumption) ?_; walk_at "sq") | exact Or.inl (by walk_at "sq") | exact Or.inr (by walk_at "sq"))
local macro_rules | `(tactic| walk_at "1") => `(tactic| first
  | refine ⟨_, rfl, iteT ?_⟩
  | refine ⟨_, rfl, iteF ?_⟩
  | refine ⟨_, rfl, ?_⟩
  | refine ⟨_, _, rfl, rfl, (by walk_at "side"), ?_⟩
  | refine ⟨_, _, rfl, rfl, ?_⟩
  | refine ⟨_, _, _, _, true, rfl, .ty _, .base (.int _), kit_ty (a := "int") (by decide +kernel), ?_⟩
  | refine ⟨_, _, _, _, false, rfl, .ty _, .base (.int _), kit_ty (a := "int") (by decide +kernel), ?_⟩
  | refine ⟨_, _, rfl, (by walk_at "sq"), ?_⟩
  | refine ⟨_, _, _, _, rfl, rfl, (by walk_at "sq"), (by first | rfl | assumption), ?_⟩
  | refine Or.inl ⟨_, _, _, _, rfl, rfl, (by walk_at "sq"), (by first | rfl | assumption), ?_⟩
  | refine Or.inr (Or.inl ⟨_, _, _, _, rfl, rfl, (by walk_at "sq"), (by first | rfl | assumption), ?_⟩)
  | refine ⟨_, _, rfl, Or.inl ⟨(by walk_at "sq"), ?_⟩⟩
  | refine ⟨rfl, ?_⟩
  | refine iteT ?_
  | refine iteF ?_
  | refine ⟨_, _, _, _, _, rfl, (by assumption), (by assumption), (by assumption), (by assumption), ?_⟩
  | refine Or.inl ⟨_, rfl, ?_⟩
  | refine Or.inr ⟨_, rfl, ?_⟩
  | refine ⟨_, _, rfl, (by walk_at "side"), ?_⟩
  | refine ⟨_, _, rfl, ?_⟩)
local macro_rules | `(tactic| walk_at "fld") => `(tactic| skip)
local macro_rules | `(tactic| walk_at "s") => `(tactic| repeat walk_at "1")
local macro_rules | `(tactic| walk_at "size") => `(tactic| first | exact Nat.le_of_ble_eq_true rfl | (simp only [List.length_map, List.length_append, List.length_cons, List.length_nil]; omega))
local macro_rules | `(tactic| walk_at "new") => `(tactic| (first | refine ⟨(by walk_at "size"), fun p hp => ?_⟩ | refine fun p hp => ?_); (generalize hq : upd _ p _ = H1); (obtain ⟨s, e⟩ := new_facts hp hq); clear hq)
local macro_rules | `(tactic| walk_at "1") => `(tactic| refine And.intro (by assumption) ?_)

open TL
theorem turnIn_of {A : List (Option Int)} {M : Int} {y z : Option Int} (hy : A.head? = some y) (hz : A.getLast? = some z) : TurnIn A M ↔ (y = none ∧ z = none ∧ M = 0) ∨ ∃ lo, y = some lo ∧ z.getD 0 ≤ lo + M := by
  unfold TurnIn
  rw [hy, hz]
  cases y with
  | none => exact ⟨fun q => Or.inl ⟨rfl, q.1, q.2⟩, fun q => q.elim (fun r => r.2) (fun ⟨_, r, _⟩ => nomatch r)⟩
  | some lo => exact ⟨fun q => Or.inr ⟨lo, rfl, q⟩, fun q => q.elim (fun r => nomatch r.1) (fun ⟨l, r, s⟩ => by
      obtain rfl := Option.some.inj r
      exact s)⟩
theorem last_some {F A : List (Option Int)} {lo : Int} {z : Option Int} (h : chB none (F ++ A) = true) (hy : A.head? = some (some lo)) (hz : A.getLast? = some z) : ∃ hi, z = some hi := by
  rw [chB_app, Bool.and_eq_true] at h
  cases A with
  | nil => cases hy
  | cons y r =>
    obtain rfl := Option.some.inj hy
    have h2 : (!pairBad _ (some lo) && chB (some lo) r) = true := h.2
    rw [Bool.and_eq_true] at h2
    have h3 := rises_some lo r (by rw [rises_chB]; exact h2.2)
    cases z with
    | some i => exact ⟨i, rfl⟩
    | none =>
      have hm := List.mem_of_getLast? hz
      rcases List.mem_cons.mp hm with q | q
      · cases q
      · exact absurd rfl (h3 _ q)
def AscW (W : List Str) : Prop := ∀ w ∈ W, w.length ≤ 10000 ∧ ∀ c ∈ wcs w, c < 128
section
variable {P : Program} {w : World} {K : PySem.W.Frag} {mg : Str → Option Value} {base : Heap} {C D U : Addr}
abbrev s_law_due : Stmt := topS 35
theorem sc_law_due : FnScope ["line", "words", "at", "some", "first", "again", "more", "here", "there", "word"] ["line"] (defScope s_law_due) := ⟨rfl, rfl, rfl, by decide +kernel, rfl, by decide +kernel, by decide +kernel⟩
def spDue : Sp := fun vs H Q _ => ∃ (x : Str), vs = [.str x] ∧ x.length ≤ 10000 ∧ (Txt.split x " ").length < 400 ∧ AscW (Txt.split x " ") ∧ (match dueW (Txt.split x " ") with
  | .text => ∀ H', Same H H' → Q (.str "text") H'
  | .row => ∀ H', Same H H' → Q (.str "row") H'
  | .args f a m => ∀ H' p pf pa, Same H H' → H' p = some (.tup [.ref pf, .ref pa, .int m]) → H' pf = some (.lst (f.map ov)) → H' pa = some (.lst (a.map ov)) → Q (.ref p) H')
set_option maxHeartbeats 16000000 in
theorem ok_due (F : Df K mg "_law_due" s_law_due ["line"]) (T : Txt mg) (o_law_is_integer : Own P w K mg base "_law_is_integer" 1 ["word"] spLawInt) : Own P w K mg base "_law_due" 2 ["line"] spDue := by
  refine F.own sc_law_due (fun vs H Q E h => ?_) (fun fa cdv A outer s H vs Q E hr h => ?_)
  · obtain ⟨_, rfl, _⟩ := h
    rfl
  · obtain ⟨x, rfl, hx, hWl, hA, k⟩ := h
    have h10 : 10000 ≤ sizeLine := by decide
    refine ⟨_, (pss_cons (ps_set (i := 1) sc_law_due.nd rfl (Or.inl rfl) (pe_m1 PySem.F.slot_str_split PySem.F.type_str_split mt_split (pv 0) pe_str))
  (C8.pss_cut (ps_if (PW.pt (pw_or (pt_cmpR op_ne (pe_bm PySem.F.plainAttrs_list PySem.F.slot_list_count PySem.F.type_list_count mt_scount (pv 1) (pa_cons pe_str pa_nil)) pe_int (nomark _)) (pw_or (pt_cmpR op_lt (pe_callB call_len_seq (by rfl) T.len PySem.boot_len (pa_cons (pv 1) pa_nil)) pe_int (nomark _)) (pw_or (pt_cmpR op_ne (pe_ix ix_list (pv 1) (pe_un un_neg pe_int) (fun _ _ => rfl)) pe_str (nomark _)) (pw_or1 (pt_cmpR op_gt (pe_bm PySem.F.plainAttrs_list PySem.F.slot_list_index PySem.F.type_list_index mt_index (pv 1) (pa_cons pe_str pa_nil)) (pe_op op_sub (pe_callB call_len_seq (by rfl) T.len PySem.boot_len (pa_cons (pv 1) pa_nil)) pe_int) (nomark _)))))))
    (pss_one (ps_ret pe_str))
    pss_nil)
  (pss_cons (ps_set (i := 2) sc_law_due.nd rfl (Or.inl rfl) (pe_bm PySem.F.plainAttrs_list PySem.F.slot_list_index PySem.F.type_list_index mt_index (pv 1) (pa_cons pe_str pa_nil)))
  (C8.pss_cut (ps_if (pt_cmpR (op_neD hr.units) (pe_lc (own := [("word", 9)]) (g := gName 9) (tt := (tAnd (tTest (tOp _ (tVar 9) (tC (.str "-")))) (tNot (tB (tCall spLawInt [] E0 (tCons (tVar 9) tNil)))))) rfl sc_law_due.nd (pi_list (pe_op op_cat (pe_slice sl_list (pv 1) po_none (po_some (pv 2))) (pe_slice sl_list (pv 1) (po_some (pe_op op_add (pv 2) pe_int)) (po_some (pe_un un_neg pe_int))))) (blkOk_by (own := [("word", 9)]) (N := ["line", "words", "at", "some", "first", "again", "more", "here", "there", "word"]) (sc := defScope s_law_due) (by decide +kernel)) (fun _ _ _ _ _ => (pg_name (i := 9) sc_law_due.nd rfl (Or.inl rfl))) (fun _ _ _ _ _ => (pts_one (PW.pt (pw_and (pt_cmpR op_ne (pv 9) pe_str (nomark _)) (pw_and1 (pt_not (pt_val (pe_own o_law_is_integer (hr.mono (by decide)) (pa_cons (pv 9) pa_nil))))))))) (fun _ _ _ _ _ => (pv 9))) (pe_lst pa_nil) (nomark _))
    (pss_one (ps_ret pe_str))
    pss_nil)
  (C8.pss_cut (ps_if (PW.pt (pw_or (pt_not (pt_val (pe_own o_law_is_integer (hr.mono (by decide)) (pa_cons (pe_ix ix_list (pv 1) (pe_un un_neg pe_int) (fun _ _ => rfl)) pa_nil)))) (pw_or1 (pt_cmpR op_eq (pe_ix ix_str (pe_ix ix_list (pv 1) (pe_un un_neg pe_int) (fun _ _ => rfl)) pe_int (fun _ _ => rfl)) pe_str (nomark _)))))
    (pss_one (ps_ret pe_str))
    pss_nil)
  (C8.pss_cut (ps_setLc (i := 3) (own := [("word", 9)]) (g := gName 9) (tt := tYes) rfl sc_law_due.nd rfl rfl (sw_true rfl rfl rfl (by decide +kernel)) (pi_list (pe_op op_cat (pe_slice sl_list (pv 1) po_none (po_some (pv 2))) (pe_slice sl_list (pv 1) (po_some (pe_op op_add (pv 2) pe_int)) (po_some (pe_un un_neg pe_int))))) (blkOk_by (own := [("word", 9)]) (N := ["line", "words", "at", "some", "first", "again", "more", "here", "there", "word"]) (sc := defScope s_law_due) (by decide +kernel)) (fun _ _ _ _ _ => (pg_name (i := 9) sc_law_due.nd rfl (Or.inl rfl))) (fun _ _ _ _ _ => pts_nil) (fun _ _ _ _ _ => (pe_ifExp (pt_cmpR op_eq (pv 9) pe_str (nomark _)) pe_non (pe_callTy call_int_str (by rfl) T.int (by decide +kernel) (pa_cons (pv 9) pa_nil)))))
  (C8.pss_cut (ps_par3 (i := 4) (j := 5) (l := 6) (by rfl) sc_law_due.nd rfl rfl rfl (by decide) (by decide) (by decide) rfl rfl rfl (pa_cons (pe_slice sl_list (pv 3) po_none (po_some (pv 2))) (pa_cons (pe_slice sl_list (pv 3) (po_some (pv 2)) po_none) (pa_cons (pe_callTy call_int_str (by rfl) T.int (by decide +kernel) (pa_cons (pe_ix ix_list (pv 1) (pe_un un_neg pe_int) (fun _ _ => rfl)) pa_nil)) pa_nil))) (by rfl))
  (C8.pss_cut (ps_for PassesOwn.never rfl (pi_zip (by rfl) T.zip (pa_cons (pv 3) (pa_cons (pe_slice sl_list (pv 3) (po_some pe_int) po_none) pa_nil))) (pg_tup (by rfl) (pgs_cons (pg_name (i := 7) sc_law_due.nd rfl (Or.inl rfl)) (pgs_cons (pg_name (i := 8) sc_law_due.nd rfl (Or.inl rfl)) pgs_nil)))
    (pss_one (ps_if (PW.pt (pw_and (pt_cmpR op_notN (pv 7) pe_non (nomark _)) (pw_and1 (PW.pt (pw_or (pt_cmpR op_isN (pv 8) pe_non (nomark _)) (pw_or1 (pt_cmpR op_lt (pv 8) (pv 7) (nomark _))))))))
        (pss_one (ps_ret pe_str))
        pss_nil)))
  (C8.pss_cut (ps_if (pt_cmpR op_isN (pe_ix ix_list (pv 5) pe_int (fun _ _ => rfl)) pe_non (nomark _))
    (pss_one (ps_ret (pe_ifExp (PW.pt (pw_or (pt_cmpR op_notN (pe_ix ix_list (pv 5) (pe_un un_neg pe_int) (fun _ _ => rfl)) pe_non (nomark _)) (pw_or1 (pt_cmpR op_ne (pv 6) pe_int (nomark _))))) pe_str (pe_tup (pa_cons (pv 4) (pa_cons (pv 5) (pa_cons (pv 6) pa_nil)))))))
    pss_nil)
  (pss_one (ps_ret (pe_ifExp (pt_cmpR op_le (pe_ix ix_list (pv 5) (pe_un un_neg pe_int) (fun _ _ => rfl)) (pe_op op_add (pe_ix ix_list (pv 5) pe_int (fun _ _ => rfl)) (pv 6)) (nomark _)) (pe_tup (pa_cons (pv 4) (pa_cons (pv 5) (pa_cons (pv 6) pa_nil)))) pe_str)))))))))))), ?_⟩
    have hsp := PyProof.Rows.split_le x " "
    have hx2 : x.length + 2 ≤ sizeLine := Nat.le_trans (show x.length + 2 ≤ 10002 by omega) (by decide)
    walk_at "s"
    refine ⟨⟨x, rfl⟩, x, " ", rfl, rfl, by decide, hx2, fun pw nw => ?_⟩
    generalize hq : upd _ pw _ = H1
    obtain ⟨s1, e1⟩ := new_facts nw hq
    clear hq
    generalize Txt.split x " " = W at *
    have hWs : W.length ≤ sizeLine := by omega
    have hW1 : (W.map V.str).length = W.length := List.length_map ..
    have bad : ¬ FormW W → ∀ H', Same H1 H' → Q (.str "text") H' := fun hn H' s' => by
      rw [show dueW W = .text from if_neg hn] at k
      exact k _ (s1.trans s')
    refine ⟨fun σ' H' => σ' = [some (.str x), some (.ref pw), none, none, none, none, none, none, none, none] ∧ H' = H1 ∧ (W.countP fun y : Str => decide (y = "|")) = 1 ∧ 4 ≤ W.length ∧ W[W.length - 2]? = some ("+" : Str) ∧ barW W + 4 ≤ W.length, ?_, ?_⟩
    · walk_at "s"
      refine ⟨Or.inl ⟨rfl, _, SqL.of e1⟩, ?_⟩
      walk_at "s"
      refine ⟨pw, W, "|", rfl, rfl, SqL.of e1, ?_⟩
      walk_at "s"
      by_cases c1 : (W.countP fun y : Str => decide (y = "|")) = 1
      · rw [show decide (V.int ((W.countP fun y : Str => decide (y = "|") : Nat) : Int) = V.int 1) = true from by rw [c1]; rfl]
        obtain ⟨hb1, hb2, hb3⟩ := bar_lt c1
        walk_at "s"
        rw [hW1]
        walk_at "s"
        by_cases c2 : 4 ≤ W.length
        · rw [decide_eq_false (show ¬ (W.length : Int) < 4 by omega)]
          walk_at "s"
          have hat : atI (W.map V.str) (-2) = some (V.str (W[W.length - 2])) := atI_back (k := 2) (by decide) (by rw [hW1]; omega) (by rw [hW1, List.getElem?_map, List.getElem?_eq_getElem (by omega)]; rfl)
          refine ⟨pw, _, _, _, rfl, rfl, SqL.of e1, hat, ?_⟩
          walk_at "s"
          rw [str_eq]
          by_cases c3 : W[W.length - 2] = "+"
          · rw [decide_eq_true c3]
            walk_at "s"
            refine ⟨Or.inl ⟨rfl, _, SqL.of e1⟩, ?_⟩
            walk_at "s"
            refine ⟨pw, W.map V.str, .str "|", barW W, .str "|", rfl, rfl, SqL.of e1, rfl, flat_strs W, ?_, ?_, ?_, ?_⟩
            · rw [List.getElem?_map, hb2]
              rfl
            · rfl
            · intro m z hm hz
              rw [List.getElem?_map] at hz
              obtain ⟨y, hy, rfl⟩ := Option.map_eq_some_iff.mp hz
              exact beq_eq_false_iff_ne.mpr (hb3 m hm y hy)
            walk_at "s"
            rw [hW1]
            by_cases c4 : barW W + 4 ≤ W.length
            · rw [decide_eq_false (show ¬ (W.length : Int) - 4 < (barW W : Int) by omega)]
              walk_at "s"
              have c3' : W[W.length - 2]? = some ("+" : Str) := by rw [List.getElem?_eq_getElem (by omega), c3]
              first | exact ⟨c1, c2, c3', c4⟩ | exact ⟨c3', c4⟩ | exact c4
            · rw [decide_eq_true (show (W.length : Int) - 4 < (barW W : Int) by omega)]
              walk_at "s"
              exact bad (fun f => c4 f.2.2.2.1) _ (Same.refl _)
          · rw [decide_eq_false c3]
            walk_at "s"
            refine bad (fun f => c3 ?_) _ (Same.refl _)
            have := f.2.2.1
            rw [List.getElem?_eq_getElem (by omega)] at this
            exact Option.some.inj this
        · rw [decide_eq_true (show (W.length : Int) < 4 by omega)]
          walk_at "s"
          exact bad (fun f => c2 f.2.1) _ (Same.refl _)
      · rw [show decide (V.int ((W.countP fun y : Str => decide (y = "|") : Nat) : Int) = V.int 1) = false from decide_eq_false fun q => c1 (by
          have := V.int.inj q
          omega)]
        walk_at "s"
        exact bad (fun f => c1 f.1) _ (Same.refl _)
    · rintro σ' H' ⟨rfl, rfl, c1, c2, c3, c4⟩
      obtain ⟨hb1, hb2, hb3⟩ := bar_lt c1
      walk_at "s"
      refine ⟨Or.inl ⟨rfl, _, SqL.of e1⟩, ?_⟩
      walk_at "s"
      refine ⟨pw, W.map V.str, .str "|", barW W, .str "|", rfl, rfl, SqL.of e1, rfl, flat_strs W, ?_, ?_, ?_, ?_⟩
      · rw [List.getElem?_map, hb2]
        rfl
      · rfl
      · intro m z hm hz
        rw [List.getElem?_map] at hz
        obtain ⟨y, hy, rfl⟩ := Option.map_eq_some_iff.mp hz
        exact beq_eq_false_iff_ne.mpr (hb3 m hm y hy)
      walk_at "s"
      have htl : (toldW W).length = W.length - 3 := told_len c4
      have hml : ((toldW W).map V.str).length = (toldW W).length := List.length_map ..
      have hAt : ∀ w ∈ toldW W, w.length ≤ 10000 ∧ ∀ c ∈ wcs w, c < 128 := fun w hm => hA w (by
        rcases List.mem_append.mp hm with h | h
        · exact List.mem_of_mem_take h
        · exact List.mem_of_mem_drop (List.mem_of_mem_take h))
      have hlast := last_at (W := W) (by omega)
      have hAl := hA _ (List.mem_of_getElem? hlast)
      have hatl : atI (W.map V.str) (-1) = some (V.str (lastW W)) := atI_back (k := 1) (by decide) (by rw [hW1]; omega) (by rw [hW1, List.getElem?_map, hlast]; rfl)
      refine ⟨fun σ' H2 => σ' = [some (.str x), some (.ref pw), some (.int (barW W)), none, none, none, none, none, none, none] ∧ Same H' H2 ∧ (toldW W).all (fun w => thingL (wcs w)) = true, ?_, ?_⟩
      · walk_at "s"
        walk_at "new"
        rename_i p5 n5 H5 s5 e5
        rw [cut_to (by rw [hW1]; omega), ← List.map_take] at e5
        have e15 := s5 _ _ e1
        clear e1
        walk_at "s"
        rw [show ((barW W : Nat) : Int) + 1 = ((barW W + 1 : Nat) : Int) by omega]
        walk_at "s"
        walk_at "new"
        rename_i p6 n6 H6 s6 e6
        rw [show (-2 : Int) = -((2 : Nat) : Int) from rfl, cut_neg (by decide) (by rw [hW1]; omega) (by rw [hW1]; omega), hW1, ← List.map_drop, ← List.map_take] at e6
        have e56 := s6 _ _ e5
        clear e5
        walk_at "s"
        refine ⟨(by simp only [List.length_map, List.length_take, List.length_drop]; omega), fun pc nc => ?_⟩
        generalize hq : upd _ pc _ = H7
        obtain ⟨s7, e7⟩ := new_facts nc hq
        clear hq
        rw [← List.map_append, show W.take (barW W) ++ (W.drop (barW W + 1)).take (W.length - 2 - (barW W + 1)) = toldW W from rfl] at e7
        have s57 := s5.trans (s6.trans s7)
        clear e6 e56 e15
        refine ⟨pc, rfl, ⟨_, SqL.of e7⟩, fun L nL => lc_it walk_list (LcP H7 L fun i => ((toldW W)[i]?).bind fun w => if thingL (wcs w) = true then none else some (V.str w)) (LcP.zero nL) (fun i H' _ p => SqL.of (p.same _ _ e7)) ?_ ?_⟩
        · rintro i y H3 H4 hi p ⟨rfl, hy⟩
          rw [List.getElem?_map] at hy
          obtain ⟨z, hz, rfl⟩ := Option.map_eq_some_iff.mp hy
          have hzA := hAt z (List.mem_of_getElem? hz)
          have hto := thing_or z
          walk_at "s"
          rw [str_eq]
          by_cases hz1 : z = "-"
          · rw [decide_eq_true hz1]
            rw [decide_eq_true hz1, Bool.true_or] at hto
            walk_at "s"
            exact p.no (Same.refl _) (by rw [hz]; exact if_pos hto)
          · rw [decide_eq_false hz1]
            rw [decide_eq_false hz1, Bool.false_or] at hto
            walk_at "s"
            refine ⟨hzA.1, hzA.2, fun H8 s8 => ?_⟩
            rw [← hto]
            by_cases hz2 : thingL (wcs z) = true
            · rw [hz2]
              walk_at "s"
              exact p.no s8 (by rw [hz]; exact if_pos hz2)
            · have hz3 : thingL (wcs z) = false := by simpa using hz2
              rw [hz3]
              walk_at "s"
              exact p.yes s8 nL (by omega) (by rw [hz]; exact if_neg hz2)
        · intro H3 p
          have e := p.lst
          have ps := p.same
          have efm : ((List.range (toldW W).length).filterMap fun i => ((toldW W)[i]?).bind fun w => if thingL (wcs w) = true then none else some (V.str w)) = ((toldW W).filter fun w => !thingL (wcs w)).map V.str := by
            have := fm_if (toldW W) (fun w => !thingL (wcs w)) V.str
            refine Eq.trans ?_ this
            congr 1
            funext i
            cases (toldW W)[i]? with
            | none => rfl
            | some w =>
              show (if thingL (wcs w) = true then none else some (V.str w)) = if (!thingL (wcs w)) = true then some (V.str w) else none
              cases thingL (wcs w) <;> rfl
          rw [hml, efm] at e
          walk_at "s"
          walk_at "new"
          rename_i q nq H8 s8 e8
          refine rd_neNil _ ?_ (SqL.of (s8 _ _ e)) (SqL.of e8) ?_
          · intro z hz
            exact strOk_asc (hAt z (List.mem_filter.mp hz).1).2
          · by_cases c6 : (toldW W).all (fun w => thingL (wcs w)) = true
            · have hn : ((toldW W).filter fun w => !thingL (wcs w)) = [] := List.filter_eq_nil_iff.mpr fun w hw => by
                rw [List.all_eq_true.mp c6 w hw]
                decide
              rw [hn]
              walk_at "s"
              first | exact ⟨s57.trans (ps.trans s8), c6⟩ | exact c6
            · have hn : ¬ ((toldW W).filter fun w => !thingL (wcs w)) = [] := fun q => c6 (List.all_eq_true.mpr fun w hw => by
                have := List.filter_eq_nil_iff.mp q w hw
                simpa using this)
              rw [decide_eq_false hn]
              walk_at "s"
              exact bad (fun f => c6 f.2.2.2.2.2) _ (s57.trans (ps.trans s8))
      · rintro σ' H2 ⟨rfl, s2, c6⟩
        have e12 := s2 _ _ e1
        clear e1
        refine ⟨fun σ' H3 => σ' = [some (.str x), some (.ref pw), some (.int (barW W)), none, none, none, none, none, none, none] ∧ Same H2 H3 ∧ numL2 12 (wcs (lastW W)) = true, ?_, ?_⟩
        · walk_at "s"
          refine ⟨hAl.1, hAl.2, fun H3 s3 => ?_⟩
          by_cases c5 : numL2 12 (wcs (lastW W)) = true
          · obtain ⟨hi1, hi2⟩ := num_head.mp c5
            rw [hi1]
            walk_at "s"
            have e13 := s3 _ _ e12
            have hat0 : atI (wcs (lastW W)) 0 = some ((wcs (lastW W)).headD 0) := by
              cases hw : wcs (lastW W) with
              | nil => exact absurd hw (int_ne hi1)
              | cons c r => exact atI_nat (j := 0) rfl
            refine ⟨pw, _, _, _, rfl, rfl, SqL.of e13, hatl, ?_⟩
            walk_at "s"
            refine ⟨lastW W, 0, _, rfl, rfl, by omega, hat0, ?_⟩
            walk_at "s"
            rw [str_m, sign_eq]
            have hne : ¬ (wcs (lastW W)).headD 0 = 45 := fun q => hi2 (by
              cases hw : wcs (lastW W) with
              | nil => exact absurd hw (int_ne hi1)
              | cons c r =>
                rw [hw] at q
                exact congrArg some q)
            rw [decide_eq_false hne]
            walk_at "s"
            first | exact ⟨s3, c5⟩ | exact c5
          · have nf : ¬ FormW W := fun f => c5 f.2.2.2.2.1
            by_cases hi1 : intL (wcs (lastW W)) = true
            · rw [hi1]
              walk_at "s"
              have e13 := s3 _ _ e12
              have hh : (wcs (lastW W)).head? = some 45 := by
                by_cases q : (wcs (lastW W)).head? = some 45
                · exact q
                · exact absurd (num_head.mpr ⟨hi1, q⟩) c5
              have hat0 : atI (wcs (lastW W)) 0 = some 45 := by
                cases hw : wcs (lastW W) with
                | nil => rw [hw] at hh; cases hh
                | cons c r =>
                  rw [hw] at hh
                  rw [← Option.some.inj hh]
                  exact atI_nat (j := 0) rfl
              refine ⟨pw, _, _, _, rfl, rfl, SqL.of e13, hatl, ?_⟩
              walk_at "s"
              refine ⟨lastW W, 0, _, rfl, rfl, by omega, hat0, ?_⟩
              walk_at "s"
              exact bad nf _ (s2.trans s3)
            · have hi2 : intL (wcs (lastW W)) = false := by simpa using hi1
              rw [hi2]
              walk_at "s"
              exact bad nf _ (s2.trans s3)
        · rintro σ' H3 ⟨rfl, s3, c5⟩
          have e13 := s3 _ _ e12
          have hF : FormW W := ⟨c1, c2, c3, c4, c5, c6⟩
          have s13 := s2.trans s3
          have hth := fun w hw => List.all_eq_true.mp c6 w hw
          clear e12 s2 s3
          have ed : dueW W = if wrongW W = none then .args (firstW W) (againW W) (moreW W) else .row := if_pos hF
          rw [ed] at k
          obtain ⟨nl, hnl, _⟩ := int_of_num c5
          have hnl' : intText? (lastW W) = some (wordI (lastW W)) := by
            unfold wordI
            rw [hnl]
            rfl
          have hll := len_of_num c5
          have hfl := first_len hF
          obtain ⟨hal, hne⟩ := again_len hF
          obtain ⟨m0, m1⟩ := more_in hF
          have hwi : wrongW W = none ↔ chB none (thingsW W) = true ∧ TurnIn (againW W) (moreW W) := by
            have := wrong_iff (F := firstW W) m0 hne
            rw [show firstW W ++ againW W = thingsW W from List.take_append_drop _ _] at this
            exact this
          have hthl := things_len c4
          have hthm : ((thingsW W).map ov).length = (thingsW W).length := List.length_map ..
          refine ⟨fun σ' H4 => ∃ ph, σ' = [some (.str x), some (.ref pw), some (.int (barW W)), some (.ref ph), none, none, none, none, none, none] ∧ Same H3 H4 ∧ H4 ph = some (.lst ((thingsW W).map ov)), ?_, ?_⟩
          · walk_at "s"
            walk_at "new"
            rename_i p5 n5 H5 s5 e5
            rw [cut_to (by rw [hW1]; omega), ← List.map_take] at e5
            have e15 := s5 _ _ e13
            clear e13
            walk_at "s"
            rw [show ((barW W : Nat) : Int) + 1 = ((barW W + 1 : Nat) : Int) by omega]
            walk_at "s"
            walk_at "new"
            rename_i p6 n6 H6 s6 e6
            rw [show (-2 : Int) = -((2 : Nat) : Int) from rfl, cut_neg (by decide) (by rw [hW1]; omega) (by rw [hW1]; omega), hW1, ← List.map_drop, ← List.map_take] at e6
            have e56 := s6 _ _ e5
            clear e5
            walk_at "s"
            refine ⟨(by simp only [List.length_map, List.length_take, List.length_drop]; omega), fun pc nc => ?_⟩
            generalize hq : upd _ pc _ = H7
            obtain ⟨s7, e7⟩ := new_facts nc hq
            clear hq
            rw [← List.map_append, show W.take (barW W) ++ (W.drop (barW W + 1)).take (W.length - 2 - (barW W + 1)) = toldW W from rfl] at e7
            have s57 := s5.trans (s6.trans s7)
            clear e6 e56 e15
            refine ⟨pc, rfl, ⟨_, SqL.of e7⟩, fun L nL => lc_it walk_list (LcP H7 L fun i => ((toldW W)[i]?).map fun w => ov (wordV w)) (LcP.zero nL) (fun i H' _ p => SqL.of (p.same _ _ e7)) ?_ ?_⟩
            · rintro i y H4 H5 hi p ⟨rfl, hy⟩
              rw [List.getElem?_map] at hy
              obtain ⟨z, hz, rfl⟩ := Option.map_eq_some_iff.mp hy
              have hzt := hth z (List.mem_of_getElem? hz)
              walk_at "s"
              rw [str_eq]
              by_cases c7 : z = "-"
              · rw [decide_eq_true c7]
                walk_at "s"
                exact p.yes (Same.refl _) nL (by omega) (by rw [hz]; exact congrArg (fun t => some (ov t)) (if_pos c7))
              · rw [decide_eq_false c7]
                walk_at "s"
                obtain ⟨n, hn⟩ := int_of_thing hzt c7
                have := len_of_thing hzt
                refine ⟨z, n, rfl, hn, by omega, ?_⟩
                have hvz : wordV z = some n := (if_neg c7).trans (congrArg some (show (intText? z).getD 0 = n by rw [hn]; rfl))
                exact p.yes (Same.refl _) nL (by omega) (by rw [hz]; exact congrArg (fun t => some (ov t)) hvz)
            · intro H4 p
              have e := p.lst
              have ps := p.same
              rw [hml, fm_get] at e
              refine ⟨L, rfl, s57.trans ps, ?_⟩
              rw [e]
              unfold thingsW
              rw [List.map_map]
              rfl
          · rintro σ' H4 ⟨ph, rfl, s4, e4⟩
            have e14 := s4 _ _ e13
            have s14 := s13.trans s4
            clear e13 s13 s4
            refine ⟨fun σ' H5 => ∃ pf pa, σ' = [some (.str x), some (.ref pw), some (.int (barW W)), some (.ref ph), some (.ref pf), some (.ref pa), some (.int (moreW W)), none, none, none] ∧ Same H4 H5 ∧ H5 pf = some (.lst ((firstW W).map ov)) ∧ H5 pa = some (.lst ((againW W).map ov)), ?_, ?_⟩
            · walk_at "s"
              walk_at "new"
              rename_i p6 n6 H6 s6 e6
              rw [cut_to (by rw [hthm]; omega), ← List.map_take] at e6
              have e46 := s6 _ _ e4
              have e16 := s6 _ _ e14
              clear e4 e14
              walk_at "s"
              walk_at "new"
              rename_i p7 n7 H7 s7 e7
              rw [cut_from (by rw [hthm]; omega), ← List.map_drop] at e7
              have e17 := s7 _ _ e16
              have e67 := s7 _ _ e6
              clear e16 e46 e6
              walk_at "s"
              refine ⟨by omega, ?_⟩
              exact ⟨_, _, _, rfl, p6, p7, rfl, s6.trans s7, e67, e7⟩
            · rintro σ' H5 ⟨pf, pa, rfl, s5, ef, ea⟩
              have e45 := s5 _ _ e4
              have s15 := s14.trans s5
              clear e14 s14 e4 s5
              have hSl : (thingsW W).length ≤ sizeLine := by omega
              refine ⟨fun σ' H6 => ∃ u v, σ' = [some (.str x), some (.ref pw), some (.int (barW W)), some (.ref ph), some (.ref pf), some (.ref pa), some (.int (moreW W)), u, v, none] ∧ Same H5 H6 ∧ chB none (thingsW W) = true, ?_, ?_⟩
              · walk_at "s"
                walk_at "new"
                rename_i p6 n6 H6 s6 e6
                rw [show (1 : Int) = ((1 : Nat) : Int) from rfl, cut_from (by rw [hthm]; omega), ← List.map_drop] at e6
                have e56 := s6 _ _ e45
                have row : ∀ H7, Same H6 H7 → ¬ chB none (thingsW W) = true → Q (.str "row") H7 := fun H7 s7 hn => by
                  rw [if_neg (fun q => hn (hwi.mp q).1)] at k
                  exact k _ (s1.trans (s15.trans (s6.trans s7)))
                clear e45
                walk_at "s"
                refine ⟨ph, p6, _, _, rfl, SqL.of e56, SqL.of e6, for_it (walk_zip (xs := (thingsW W).map ov) (ys := ((thingsW W).drop 1).map ov) (n := (thingsW W).length - 1) (by simp only [List.length_map, List.length_drop]; omega))
                  (fun i σ H => ∃ u v, σ = [some (.str x), some (.ref pw), some (.int (barW W)), some (.ref ph), some (.ref pf), some (.ref pa), some (.int (moreW W)), u, v, none] ∧ Same H6 H ∧ ∀ j x y, j < i → (thingsW W)[j]? = some x → (thingsW W)[j + 1]? = some y → pairBad x y = false)
                  ⟨none, none, rfl, Same.refl _, fun _ _ _ h => absurd h (Nat.not_lt_zero _)⟩ (fun i σ H _ h => by
                    obtain ⟨u, v, _, s7, _⟩ := h
                    exact ⟨SqL.of (s7 _ _ e56), SqL.of (s7 _ _ e6)⟩) ?_ ?_⟩
                · rintro i z σ H7 H8 hi ⟨u, v, rfl, s7, hp⟩ ⟨tt, z1, z2, rfl, ntt, rfl, h1, h2⟩
                  have h1 : ((thingsW W).map ov)[i]? = some z1 := h1
                  have h2 : (((thingsW W).drop 1).map ov)[i]? = some z2 := h2
                  rw [List.getElem?_map] at h1 h2
                  obtain ⟨y1, hy1, rfl⟩ := Option.map_eq_some_iff.mp h1
                  obtain ⟨y2, hy2, rfl⟩ := Option.map_eq_some_iff.mp h2
                  rw [List.getElem?_drop, Nat.add_comm] at hy2
                  generalize hq : upd _ tt _ = H8
                  obtain ⟨s8, e8⟩ := new_facts ntt hq
                  clear hq
                  have bad2 : pairBad y1 y2 = true → ¬ chB none (thingsW W) = true := fun q1 q2 => by
                    rw [(chB_iff _).mp q2 i y1 y2 hy1 hy2] at q1
                    cases q1
                  have good2 : pairBad y1 y2 = false → ∀ j x y, j < i + 1 → (thingsW W)[j]? = some x → (thingsW W)[j + 1]? = some y → pairBad x y = false := fun q j x y hj hx hy => by
                    by_cases hji : j = i
                    · subst hji
                      rw [hy1] at hx
                      rw [hy2] at hy
                      rw [← Option.some.inj hx, ← Option.some.inj hy]
                      exact q
                    · exact hp j x y (by omega) hx hy
                  have e8' := e8
                  walk_at "s"
                  cases y1 with
                  | none =>
                    walk_at "s"
                    first | exact ⟨_, _, rfl, s7.trans s8, good2 rfl⟩ | exact ⟨s7.trans s8, good2 rfl⟩
                  | some i1 =>
                    cases y2 with
                    | none =>
                      walk_at "s"
                      exact row _ (s7.trans s8) (bad2 rfl)
                    | some j1 =>
                      walk_at "s"
                      by_cases c : j1 < i1
                      · rw [decide_eq_true c]
                        walk_at "s"
                        exact row _ (s7.trans s8) (bad2 (decide_eq_true c))
                      · rw [decide_eq_false c]
                        walk_at "s"
                        first | exact ⟨_, _, rfl, s7.trans s8, good2 (decide_eq_false c)⟩ | exact ⟨s7.trans s8, good2 (decide_eq_false c)⟩
                · rintro σ H7 ⟨u, v, rfl, s7, hp⟩
                  refine ⟨u, v, rfl, s6.trans s7, (chB_iff _).mpr fun i x y hx hy => hp i x y ?_ hx hy⟩
                  have := (List.getElem?_eq_some_iff.mp hy).1
                  omega
              · rintro σ' H6 ⟨u, v, rfl, s6, hch⟩
                have ef6 := s6 _ _ ef
                have ea6 := s6 _ _ ea
                have s06 := s1.trans (s15.trans s6)
                clear ef ea e45 s6 s15
                obtain ⟨y, hy⟩ : ∃ y, (againW W).head? = some y := by
                  cases h : againW W with
                  | nil => exact absurd h hne
                  | cons y r => exact ⟨y, rfl⟩
                obtain ⟨z, hz⟩ : ∃ z, (againW W).getLast? = some z := ⟨_, List.getLast?_eq_some_getLast hne⟩
                have hat0 : atI ((againW W).map ov) 0 = some (ov y) := atI_head (by rw [List.head?_map, hy]; rfl)
                have hat1 : atI ((againW W).map ov) (-1) = some (ov z) := atI_neg1 (by rw [List.getLast?_map, hz]; rfl)
                have ht := turnIn_of (M := moreW W) hy hz
                have row : ∀ H7, Same H6 H7 → ¬ TurnIn (againW W) (moreW W) → Q (.str "row") H7 := fun H7 s7 hn => by
                  rw [if_neg (fun q => hn (hwi.mp q).2)] at k
                  exact k _ (s06.trans s7)
                have good : TurnIn (againW W) (moreW W) → ∀ p, H6 p = none → Q (.ref p) (upd H6 p (.tup [.ref pf, .ref pa, .int (moreW W)])) := fun hn p np => by
                  rw [if_pos (hwi.mpr ⟨hch, hn⟩)] at k
                  generalize hq : upd H6 p _ = H7
                  obtain ⟨s7, e7⟩ := new_facts np hq
                  exact k _ p pf pa (s06.trans s7) e7 (s7 _ _ ef6) (s7 _ _ ea6)
                clear bad
                refine ⟨fun σ' H7 => σ' = [some (.str x), some (.ref pw), some (.int (barW W)), some (.ref ph), some (.ref pf), some (.ref pa), some (.int (moreW W)), u, v, none] ∧ H7 = H6 ∧ y ≠ none, ?_, ?_⟩
                · walk_at "s"
                  rw [ov_non]
                  cases y with
                  | none =>
                    walk_at "s"
                    rw [ov_non]
                    cases z with
                    | none =>
                      walk_at "s"
                      by_cases c : moreW W = 0
                      · rw [show decide (V.int (moreW W) = V.int 0) = true from by rw [c]; rfl]
                        walk_at "s"
                        first | exact good (ht.mpr (Or.inl ⟨rfl, rfl, c⟩)) | exact ⟨by show 3 ≤ sizeLine; decide, good (ht.mpr (Or.inl ⟨rfl, rfl, c⟩))⟩
                      · rw [show decide (V.int (moreW W) = V.int 0) = false from decide_eq_false fun q => c (V.int.inj q)]
                        walk_at "s"
                        exact row _ (Same.refl _) fun q => (ht.mp q).elim (fun r => c r.2.2) (fun ⟨_, r, _⟩ => nomatch r)
                    | some hi =>
                      walk_at "s"
                      exact row _ (Same.refl _) fun q => (ht.mp q).elim (fun r => nomatch r.2.1) (fun ⟨_, r, _⟩ => nomatch r)
                  | some lo =>
                    walk_at "s"
                    first | exact fun q => nomatch q | exact ⟨rfl, fun q => nomatch q⟩
                · rintro σ' H7 ⟨rfl, rfl, hyn⟩
                  cases y with
                  | none => exact absurd rfl hyn
                  | some lo =>
                    rw [show thingsW W = firstW W ++ againW W from (List.take_append_drop _ _).symm] at hch
                    obtain ⟨hi, rfl⟩ := last_some hch hy hz
                    walk_at "s"
                    by_cases c : hi ≤ lo + moreW W
                    · rw [decide_eq_true c]
                      walk_at "s"
                      first | exact good (ht.mpr (Or.inr ⟨lo, rfl, c⟩)) | exact ⟨by show 3 ≤ sizeLine; decide, good (ht.mpr (Or.inr ⟨lo, rfl, c⟩))⟩
                    · rw [decide_eq_false c]
                      walk_at "s"
                      exact row _ (Same.refl _) fun q => (ht.mp q).elim (fun r => nomatch r.1) (fun ⟨l, r, s⟩ => by
                        obtain rfl := Option.some.inj r
                        exact c s)
end
end My

namespace My
open PySem PySem.Spec PyProof.Rows L2
local macro_rules | `(tactic| walk_at "side") => `(tactic| first | (dsimp only; omega) | exact ⟨by omega, by omega⟩ | exact Or.inl ⟨by omega, by omega⟩ | exact Or.inr ⟨by omega, by omega⟩ | decide)
local macro_rules | `(tactic| walk_at "sq") => `(tactic| first | assumption | exact SqL.of (by assumption) | exact SqT.of (by assumption) | (refine L2.Same.seq (by assumption) ?_; walk_at "sq") | (refine L2.Same.seqT (by assumption) ?_; walk_at "sq") | exact Or.inl (by walk_at "sq") | exact Or.inr (by walk_at "sq"))
local macro_rules | `(tactic| walk_at "1") => `(tactic| first
  | refine ⟨_, rfl, iteT ?_⟩
  | refine ⟨_, rfl, iteF ?_⟩
  | refine ⟨_, rfl, ?_⟩
  | refine ⟨_, _, rfl, rfl, (by walk_at "side"), ?_⟩
  | refine ⟨_, _, rfl, rfl, ?_⟩
  | refine ⟨_, _, _, _, true, rfl, .ty _, .base (.int _), kit_ty (a := "int") (by decide +kernel), ?_⟩
  | refine ⟨_, _, _, _, false, rfl, .ty _, .base (.int _), kit_ty (a := "int") (by decide +kernel), ?_⟩
  | refine ⟨_, _, rfl, (by walk_at "sq"), ?_⟩
  | refine ⟨_, _, _, _, rfl, rfl, (by walk_at "sq"), (by first | rfl | assumption), ?_⟩
  | refine Or.inl ⟨_, _, _, _, rfl, rfl, (by walk_at "sq"), (by first | rfl | assumption), ?_⟩
  | refine Or.inr (Or.inl ⟨_, _, _, _, rfl, rfl, (by walk_at "sq"), (by first | rfl | assumption), ?_⟩)
  | refine ⟨_, _, rfl, Or.inl ⟨(by walk_at "sq"), ?_⟩⟩
  | refine ⟨rfl, ?_⟩
  | refine iteT ?_
  | refine iteF ?_
  | refine ⟨_, _, _, _, _, rfl, (by assumption), (by assumption), (by assumption), (by assumption), ?_⟩
  | refine Or.inl ⟨_, rfl, ?_⟩
  | refine ⟨_, _, rfl, (by walk_at "side"), ?_⟩
  | refine ⟨_, _, rfl, ?_⟩)
local macro_rules | `(tactic| walk_at "fld") => `(tactic| skip)
local macro_rules | `(tactic| walk_at "s") => `(tactic| repeat walk_at "1")
local macro_rules | `(tactic| walk_at "size") => `(tactic| first | exact Nat.le_of_ble_eq_true rfl | (simp only [List.length_map, List.length_append, List.length_cons, List.length_nil]; omega))
local macro_rules | `(tactic| walk_at "new") => `(tactic| (first | refine ⟨(by walk_at "size"), fun p hp => ?_⟩ | refine fun p hp => ?_); (generalize hq : upd _ p _ = H1); (obtain ⟨s, e⟩ := new_facts hp hq); clear hq)

theorem lk_first (pf pa : Addr) (m : Int) : (rowF pf pa m).lookup ("first" : Str) = some (.ref pf) := rfl
theorem lk_again (pf pa : Addr) (m : Int) : (rowF pf pa m).lookup ("again" : Str) = some (.ref pa) := rfl
theorem lk_more (pf pa : Addr) (m : Int) : (rowF pf pa m).lookup ("more" : Str) = some (.int m) := rfl
/-- what is asked of a row's parts -/
structure Parts (f a : List (Option Int)) (m : Int) : Prop where
  ne : a ≠ []
  lf : f.length < 500
  la : a.length < 500
  m0 : 0 ≤ m
  m1 : m < 2 ^ 60
def gt (xs : List (Option Int)) (i : Nat) : Option Int := (xs[i]?).join
/-- the n-th time -/
def tmR (f a : List (Option Int)) (m : Int) (n : Nat) : Option Int :=
  if n < f.length then gt f n else later1 (((n - f.length) / a.length : Nat) * m) (gt a ((n - f.length) % a.length))
theorem gt_of {xs : List (Option Int)} {i : Nat} (h : i < xs.length) : (xs.map ov)[i]? = some (ov (gt xs i)) := by
  rw [List.getElem?_map]
  unfold gt
  rw [List.getElem?_eq_getElem h]
  rfl
section
variable {P : Program} {w : World} {K : PySem.W.Frag} {mg : Str → Option Value} {base : Heap} {C : Addr}
abbrev s_Row_time : Stmt := inClass (topS 13) 3
theorem sc_Row_time : FnScope ["self", "n", "turns", "at", "time"] ["self", "n"] (defScope s_Row_time) := ⟨rfl, rfl, rfl, by decide +kernel, rfl, by decide +kernel, by decide +kernel⟩
def spTime (C : Addr) : Sp := fun vs H Q _ => ∃ (p : Addr) (f a : List (Option Int)) (m : Int) (n : Nat), vs = [.ref p, .int n] ∧ RowAt C H p f a m ∧ Parts f a m ∧ ∀ H', Same H H' → Q (ov (tmR f a m n)) H'
theorem ok_time {f1 : Addr} {fd : FuncData} (F : Fun K "time" "Row.time" s_Row_time f1 fd) (R : RowCls K C) (T : Txt mg) : FnOk P w K mg base CX0 1 f1 fd ["self", "n"] (spTime C) := by
  refine F.ok sc_Row_time (fun vs H Q E h => ?_) (fun cdv A outer s H vs Q E hr h => ?_)
  · obtain ⟨_, _, _, _, _, rfl, _⟩ := h
    rfl
  · obtain ⟨p, f, a, m, n, rfl, ⟨dx, pf, pa, h1, h2, h3⟩, ok, k⟩ := h
    have cl := R.cl
    have nF := R.nF
    have nA := R.nA
    have nM := R.nM
    have hl := lk_again pf pa m
    have hl2 := lk_more pf pa m
    have hl3 := lk_first pf pa m
    have l0 := List.length_pos_iff.mpr ok.ne
    have l1 := ok.la
    have m0 := ok.m0
    have m1 := ok.m1
    refine ⟨_, (pss_cons (ps_if (pt_cmpR op_lt (pv 1) (pe_callB call_len_seq (by rfl) T.len PySem.boot_len (pa_cons (pe_fld (pv 0) rfl) pa_nil)) (nomark _))
    (pss_one (ps_ret (pe_ix ix_tup (pe_fld (pv 0) rfl) (pv 1) (fun _ _ => rfl))))
    pss_nil)
  (pss_cons (ps_asg (pe_callB call_divmod (by rfl) T.divmod (by decide +kernel) (pa_cons (pe_op op_sub (pv 1) (pe_callB call_len_seq (by rfl) T.len PySem.boot_len (pa_cons (pe_fld (pv 0) rfl) pa_nil))) (pa_cons (pe_callB call_len_seq (by rfl) T.len PySem.boot_len (pa_cons (pe_fld (pv 0) rfl) pa_nil)) pa_nil))) (pg_tup (by rfl) (pgs_cons (pg_name (i := 2) sc_Row_time.nd rfl (Or.inl rfl)) (pgs_cons (pg_name (i := 3) sc_Row_time.nd rfl (Or.inl rfl)) pgs_nil))))
  (pss_cons (ps_set (i := 4) sc_Row_time.nd rfl (Or.inl rfl) (pe_ix ix_tup (pe_fld (pv 0) rfl) (pv 3) (fun _ _ => rfl)))
  (pss_one (ps_ret (pe_ifExp (pt_cmpR op_isN (pv 4) pe_non (nomark _)) pe_non (pe_op op_add (pv 4) (pe_op op_mul (pv 2) (pe_fld (pv 0) rfl))))))))), ?_⟩
    walk_at "s"
    rw [List.length_map]
    refine ite2 (fun c => ?_) (fun c => ?_)
    · have c' : n < f.length := by
        have := of_decide_eq_true c
        omega
      have h0 : atI (f.map ov) (n : Int) = some (ov (gt f n)) := atI_nat (gt_of c')
      walk_at "s"
      have e : tmR f a m n = gt f n := if_pos c'
      rw [← e]
      exact k _ (Same.refl _)
    · have c' : ¬ n < f.length := fun q => c (decide_eq_true (by omega))
      walk_at "s"
      rw [List.length_map, List.length_map]
      refine ⟨⟨by omega, by omega⟩, ?_⟩
      walk_at "new"
      rename_i p1 n1 H1 s1 e1
      walk_at "s"
      have h1' := s1 _ _ h1
      have h2' := s1 _ _ h2
      have h3' := s1 _ _ h3
      have en : (n : Int) - (f.length : Int) = ((n - f.length : Nat) : Int) := by omega
      have em : ((n : Int) - (f.length : Int)) % (a.length : Int) = (((n - f.length) % a.length : Nat) : Int) := by rw [en]; rfl
      have ed : ((n : Int) - (f.length : Int)) / (a.length : Int) = (((n - f.length) / a.length : Nat) : Int) := by rw [en]; rfl
      have lt : (n - f.length) % a.length < a.length := Nat.mod_lt _ l0
      walk_at "s"
      refine ⟨_, _, _, _, rfl, rfl, SqT.of h3', at_of em (gt_of lt), ?_⟩
      walk_at "s"
      have et : tmR f a m n = later1 (((n - f.length) / a.length : Nat) * m) (gt a ((n - f.length) % a.length)) := if_neg c'
      have k' := k _ s1
      rw [et] at k'
      cases hg : gt a ((n - f.length) % a.length) with
      | none =>
        rw [hg] at k'
        walk_at "s"
        exact k'
      | some x =>
        rw [hg] at k'
        walk_at "s"
        show Q (.int (x + (((n : Int) - (f.length : Int)) / (a.length : Int)) * m)) H1
        rw [ed]
        exact k'
end
end My

namespace My
open PySem PySem.Spec PyProof.Rows L2
local macro_rules | `(tactic| walk_at "side") => `(tactic| first | (dsimp only; omega) | exact ⟨by omega, by omega⟩ | exact Or.inl ⟨by omega, by omega⟩ | exact Or.inr ⟨by omega, by omega⟩ | decide)
local macro_rules | `(tactic| walk_at "sq") => `(tactic| first | assumption | exact SqL.of (by assumption) | exact SqT.of (by assumption) | (refine L2.Same.seq (by assumption) ?_; walk_at "sq") | (refine L2.Same.seqT (by assumption) ?_; walk_at "sq") | exact Or.inl (by walk_at "sq") | exact Or.inr (by walk_at "sq"))
local macro_rules | `(tactic| walk_at "1") => `(tactic| first
  | refine ⟨_, rfl, iteT ?_⟩
  | refine ⟨_, rfl, iteF ?_⟩
  | refine ⟨_, rfl, ?_⟩
  | refine ⟨_, _, rfl, rfl, (by walk_at "side"), ?_⟩
  | refine ⟨_, _, rfl, rfl, ?_⟩
  | refine ⟨_, _, _, _, true, rfl, .ty _, .base (.int _), kit_ty (a := "int") (by decide +kernel), ?_⟩
  | refine ⟨_, _, _, _, false, rfl, .ty _, .base (.int _), kit_ty (a := "int") (by decide +kernel), ?_⟩
  | refine ⟨_, _, rfl, (by walk_at "sq"), ?_⟩
  | refine ⟨_, _, _, _, rfl, rfl, (by walk_at "sq"), (by first | rfl | assumption), ?_⟩
  | refine Or.inl ⟨_, _, _, _, rfl, rfl, (by walk_at "sq"), (by first | rfl | assumption), ?_⟩
  | refine Or.inr (Or.inl ⟨_, _, _, _, rfl, rfl, (by walk_at "sq"), (by first | rfl | assumption), ?_⟩)
  | refine ⟨_, _, rfl, Or.inl ⟨(by walk_at "sq"), ?_⟩⟩
  | refine ⟨rfl, ?_⟩
  | refine iteT ?_
  | refine iteF ?_
  | refine ⟨_, _, _, _, _, rfl, (by assumption), (by assumption), (by assumption), (by assumption), ?_⟩
  | refine Or.inl ⟨_, rfl, ?_⟩
  | refine Or.inr ⟨_, rfl, ?_⟩
  | refine ⟨_, _, rfl, (by walk_at "side"), ?_⟩
  | refine ⟨_, _, rfl, ?_⟩)
local macro_rules | `(tactic| walk_at "fld") => `(tactic| skip)
local macro_rules | `(tactic| walk_at "s") => `(tactic| repeat walk_at "1")
local macro_rules | `(tactic| walk_at "size") => `(tactic| first | exact Nat.le_of_ble_eq_true rfl | (simp only [List.length_map, List.length_append, List.length_cons, List.length_nil]; omega))
local macro_rules | `(tactic| walk_at "new") => `(tactic| (first | refine ⟨(by walk_at "size"), fun p hp => ?_⟩ | refine fun p hp => ?_); (generalize hq : upd _ p _ = H1); (obtain ⟨s, e⟩ := new_facts hp hq); clear hq)

/-- two tuples of times compared -/
theorem rd_eqT {K : PySem.W.Frag} {H : Hp} {Q : VK} {p q : Addr} (xs ys : List (Option Int)) (h1 : SqT K H p (xs.map ov)) (h2 : SqT K H q (ys.map ov)) (k : Q (.bl (decide (xs = ys))) H) : rEqD K (.ref p) (.ref q) H Q :=
  ⟨_, _, .tup h1 (dpAll_ov xs), .tup h2 (dpAll_ov ys), shaped_t xs, shaped_t ys, by
    rw [show PyData.eqv (.tuple (xs.map od)) (.tuple (ys.map od)) = PyData.eqvAll (xs.map od) (ys.map od) from rfl, eqvAll_od]
    exact k⟩
/-- what isinstance and == ask of the class of rows -/
structure RowEq (K : PySem.W.Frag) (mg : Str → Option Value) (C : Addr) : Prop where
  g : mg "Row" = some (.ref C)
  ins : ∀ (H : Hp) (a dx : Addr) (fs : List (Str × V)), H a = some (.ins C dx fs) → TyX K H (.ref a) (.ref C)
  self : PySem.W.kitOne K (.ref C) (.ref C) = some true
  tup : PySem.W.kitOne K (.type "tuple") (.ref C) = some false
  str : PySem.W.kitOne K (.type "str") (.ref C) = some false
  nself : PySem.W.notFirst K C (.ref C) = true
  ntup : PySem.W.notFirst K C (.type "tuple") = true
  nstr : PySem.W.notFirst K C (.type "str") = true
  ne : PySem.W.findIn K (.ref C) "__ne__" = some (some (.builtin "object.__ne__"))
  mro : PySem.W.mroIn K C (.type "object") = some true
def wordO : Option Int → Str
  | none => "-"
  | some i => toString i
section
variable {P : Program} {w : World} {K : PySem.W.Frag} {mg : Str → Option Value} {base : Heap} {C : Addr}
abbrev s_word_of : Stmt := topS 19
theorem sc_word_of : FnScope ["thing"] ["thing"] (defScope s_word_of) := ⟨rfl, rfl, rfl, by decide +kernel, rfl, by decide +kernel, by decide +kernel⟩
def spWord : Sp := fun vs H Q _ => ∃ t : Option Int, vs = [ov t] ∧ (∀ i, t = some i → i.natAbs.log2 < 1920) ∧ Q (.str (wordO t)) H
theorem ok_word_of (D : Df K mg "_word_of" s_word_of ["thing"]) (mstr : mg "str" = none) : Own P w K mg base "_word_of" 1 ["thing"] spWord := by
  refine D.own sc_word_of (fun vs H Q E h => ?_) (fun fa cdv A outer s H vs Q E hr h => ?_)
  · obtain ⟨_, rfl, _⟩ := h
    rfl
  · obtain ⟨t, rfl, hz, k⟩ := h
    refine ⟨_, (pss_one (ps_ret (pe_ifExp (pt_cmpR op_isN (pv 0) pe_non (nomark _)) pe_str (pe_callTy call_str_int (by rfl) mstr (by decide +kernel) (pa_cons (pv 0) pa_nil))))), ?_⟩
    cases t with
    | none =>
      walk_at "s"
      exact k
    | some i =>
      walk_at "s"
      first | exact ⟨_, rfl, hz i rfl, k⟩ | exact ⟨hz i rfl, k⟩
/-- == of rows -/
abbrev s_Row_eq : Stmt := inClass (topS 13) 5
theorem sc_Row_eq : FnScope ["self", "other"] ["self", "other"] (defScope s_Row_eq) := ⟨rfl, rfl, rfl, by decide +kernel, rfl, by decide +kernel, by decide +kernel⟩
def spEqRow (K : PySem.W.Frag) (C : Addr) : Sp := fun vs H Q _ => ∃ (p : Addr) (f a : List (Option Int)) (m : Int) (y : V), vs = [.ref p, y] ∧ RowAt C H p f a m ∧
  ((∃ t, TyX K H y t ∧ PySem.W.kitOne K t (.ref C) = some false ∧ Q (.bl false) H) ∨
   (∃ (q : Addr) (f2 a2 : List (Option Int)) (m2 : Int), y = .ref q ∧ RowAt C H q f2 a2 m2 ∧ Q (.bl (decide (f = f2 ∧ a = a2 ∧ m = m2))) H))
theorem ok_eq {f1 : Addr} {fd : FuncData} (F : Fun K "__eq__" "Row.__eq__" s_Row_eq f1 fd) (R : RowCls K C) (T : Txt mg) (Z : RowEq K mg C) : FnOk P w K mg base CX0 1 f1 fd ["self", "other"] (spEqRow K C) := by
  refine F.ok sc_Row_eq (fun vs H Q E h => ?_) (fun cdv A outer s H vs Q E hr h => ?_)
  · obtain ⟨_, _, _, _, _, rfl, _⟩ := h
    rfl
  · obtain ⟨p, f, a, m, y, rfl, ⟨dx, pf, pa, h1, h2, h3⟩, k⟩ := h
    refine ⟨_, (pss_cons (ps_if (pt_not (pt_val (pe_callB call_isi (by rfl) T.isinstance (by decide +kernel) (pa_cons (pv 1) (pa_cons (pe_glob (v := .ref C) (by rfl) Z.g rfl) pa_nil)))))
    (pss_one (ps_ret pe_bl))
    pss_nil)
  (pss_one (ps_ret (pe_and (pe_cmpR (op_eqD hr.units) (pe_fld (pv 0) rfl) (pe_fld (pv 1) rfl) (nomark _)) (pe_and (pe_cmpR (op_eqD hr.units) (pe_fld (pv 0) rfl) (pe_fld (pv 1) rfl) (nomark _)) (pe_one (pe_cmpR op_eq (pe_fld (pv 0) rfl) (pe_fld (pv 1) rfl) (nomark _)))))))), ?_⟩
    have cl := R.cl
    have nF := R.nF
    have nA := R.nA
    have nM := R.nM
    have hl := lk_again pf pa m
    have hl2 := lk_more pf pa m
    have hl3 := lk_first pf pa m
    refine ⟨_, rfl, ?_⟩
    rcases k with ⟨t, ty, kt, k⟩ | ⟨q, f2, a2, m2, rfl, ⟨dx2, pf2, pa2, g1, g2, g3⟩, k⟩
    · refine ⟨_, _, _, _, false, rfl, .own _, ty, kt, ?_⟩
      walk_at "s"
      exact k
    · refine ⟨_, _, _, _, true, rfl, .own _, Z.ins _ _ _ _ g1, Z.self, ?_⟩
      have gl := lk_again pf2 pa2 m2
      have gl2 := lk_more pf2 pa2 m2
      have gl3 := lk_first pf2 pa2 m2
      walk_at "s"
      refine rd_eqT f f2 (SqT.of h2) (SqT.of g2) ?_
      by_cases e1 : f = f2
      · rw [decide_eq_true e1]
        walk_at "s"
        refine rd_eqT a a2 (SqT.of h3) (SqT.of g3) ?_
        by_cases e2 : a = a2
        · rw [decide_eq_true e2]
          walk_at "s"
          have e : decide (V.int m = V.int m2) = decide (f = f2 ∧ a = a2 ∧ m = m2) := by
            by_cases e3 : m = m2
            · subst e1 e2 e3
              simp
            · rw [decide_eq_false (fun z => e3 (V.int.inj z)), decide_eq_false (fun z => e3 z.2.2)]
          rw [e]
          exact k
        · rw [decide_eq_false e2]
          walk_at "s"
          rw [decide_eq_false (fun z => e2 z.2.1)] at k
          exact k
      · rw [decide_eq_false e1]
        walk_at "s"
        rw [decide_eq_false (fun z => e1 z.1)] at k
        exact k
end
end My

namespace My
open PySem PySem.Spec PyProof.Rows L2
local macro_rules | `(tactic| walk_at "side") => `(tactic| first | (dsimp only; omega) | exact ⟨by omega, by omega⟩ | exact Or.inl ⟨by omega, by omega⟩ | exact Or.inr ⟨by omega, by omega⟩ | decide)
local macro_rules | `(tactic| walk_at "sq") => `(tactic| first | assumption | exact SqL.of (by assumption) | exact SqT.of (by assumption) | (refine L2.Same.seq (by assumption) ?_; walk_at "sq") | (refine L2.Same.seqT (by assumption) ?_; walk_at "sq") | exact Or.inl (by walk_at "sq") | exact Or.inr (by walk_at "sq"))
local macro_rules | `(tactic| walk_at "1") => `(tactic| first
  | refine ⟨_, rfl, iteT ?_⟩
  | refine ⟨_, rfl, iteF ?_⟩
  | refine ⟨_, rfl, ?_⟩
  | refine ⟨_, _, rfl, rfl, (by walk_at "side"), ?_⟩
  | refine ⟨_, _, rfl, rfl, ?_⟩
  | refine ⟨_, _, _, _, true, rfl, .ty _, .base (.int _), kit_ty (a := "int") (by decide +kernel), ?_⟩
  | refine ⟨_, _, _, _, false, rfl, .ty _, .base (.int _), kit_ty (a := "int") (by decide +kernel), ?_⟩
  | refine ⟨_, _, rfl, (by walk_at "sq"), ?_⟩
  | refine ⟨_, _, _, _, rfl, rfl, (by walk_at "sq"), (by first | rfl | assumption), ?_⟩
  | refine Or.inl ⟨_, _, _, _, rfl, rfl, (by walk_at "sq"), (by first | rfl | assumption), ?_⟩
  | refine Or.inr (Or.inl ⟨_, _, _, _, rfl, rfl, (by walk_at "sq"), (by first | rfl | assumption), ?_⟩)
  | refine ⟨_, _, rfl, Or.inl ⟨(by walk_at "sq"), ?_⟩⟩
  | refine ⟨rfl, ?_⟩
  | refine iteT ?_
  | refine iteF ?_
  | refine ⟨_, _, _, _, _, rfl, (by assumption), (by assumption), (by assumption), (by assumption), ?_⟩
  | refine Or.inl ⟨_, rfl, ?_⟩
  | refine Or.inr ⟨_, rfl, ?_⟩
  | refine ⟨_, _, rfl, (by walk_at "side"), ?_⟩
  | refine ⟨_, _, rfl, ?_⟩)
local macro_rules | `(tactic| walk_at "fld") => `(tactic| skip)
local macro_rules | `(tactic| walk_at "s") => `(tactic| repeat walk_at "1")
local macro_rules | `(tactic| walk_at "size") => `(tactic| first | exact Nat.le_of_ble_eq_true rfl | (simp only [List.length_map, List.length_append, List.length_cons, List.length_nil]; omega))
local macro_rules | `(tactic| walk_at "new") => `(tactic| (first | refine ⟨(by walk_at "size"), fun p hp => ?_⟩ | refine fun p hp => ?_); (generalize hq : upd _ p _ = H1); (obtain ⟨s, e⟩ := new_facts hp hq); clear hq)

/-! texts of numbers -/
theorem toString_neg (n : Nat) : (toString (Int.negSucc n) : String) = "-" ++ toString (((n + 1 : Nat) : Int)) := rfl
theorem numLen {i : Int} {k : Nat} (hk : 0 < k) (h : i.natAbs < 10 ^ k) : (PySem.Str.ofString (toString i)).length ≤ k + 1 := by
  cases i with
  | ofNat n =>
    have h' : ((n : Nat) : Int) < 10 ^ k := by exact_mod_cast h
    exact Nat.le_succ_of_le (PyProof.Rows.toString_length_le (Int.natCast_nonneg n) hk h')
  | negSucc n =>
    have h' : (((n + 1 : Nat)) : Int) < 10 ^ k := by exact_mod_cast h
    have e := PyProof.Rows.toString_length_le (Int.natCast_nonneg (n + 1)) hk h'
    rw [PyProof.Rows.ofString_length] at e ⊢
    rw [toString_neg, String.toList_append, List.length_append]
    have : ("-" : String).toList.length = 1 := by decide
    omega
theorem wordLen {t : Option Int} (h : ∀ i, t = some i → i.natAbs < 10 ^ 20) : (wordO t).length ≤ 21 := by
  cases t with
  | none => exact (by decide : (PySem.Str.ofString "-").length ≤ 21)
  | some i => exact numLen (by decide) (h i rfl)
end My

namespace My
open PySem PySem.Spec PyProof.Rows L2
local macro_rules | `(tactic| walk_at "side") => `(tactic| first | (dsimp only; omega) | exact ⟨by omega, by omega⟩ | exact Or.inl ⟨by omega, by omega⟩ | exact Or.inr ⟨by omega, by omega⟩ | decide)
local macro_rules | `(tactic| walk_at "sq") => `(tactic| first | assumption | exact SqL.of (by assumption) | exact SqT.of (by assumption) | (refine L2.Same.seq (by assumption) ?_; walk_at "sq") | (refine L2.Same.seqT (by assumption) ?_; walk_at "sq") | exact Or.inl (by walk_at "sq") | exact Or.inr (by walk_at "sq"))
local macro_rules | `(tactic| walk_at "1") => `(tactic| first
  | refine ⟨_, rfl, iteT ?_⟩
  | refine ⟨_, rfl, iteF ?_⟩
  | refine ⟨_, rfl, ?_⟩
  | refine ⟨_, _, rfl, rfl, (by walk_at "side"), ?_⟩
  | refine ⟨_, _, rfl, rfl, ?_⟩
  | refine ⟨_, _, _, _, true, rfl, .ty _, .base (.int _), kit_ty (a := "int") (by decide +kernel), ?_⟩
  | refine ⟨_, _, _, _, false, rfl, .ty _, .base (.int _), kit_ty (a := "int") (by decide +kernel), ?_⟩
  | refine ⟨_, _, rfl, (by walk_at "sq"), ?_⟩
  | refine ⟨_, _, _, _, rfl, rfl, (by walk_at "sq"), (by first | rfl | assumption), ?_⟩
  | refine Or.inl ⟨_, _, _, _, rfl, rfl, (by walk_at "sq"), (by first | rfl | assumption), ?_⟩
  | refine Or.inr (Or.inl ⟨_, _, _, _, rfl, rfl, (by walk_at "sq"), (by first | rfl | assumption), ?_⟩)
  | refine ⟨_, _, rfl, Or.inl ⟨(by walk_at "sq"), ?_⟩⟩
  | refine ⟨rfl, ?_⟩
  | refine iteT ?_
  | refine iteF ?_
  | refine ⟨_, _, _, _, _, rfl, (by assumption), (by assumption), (by assumption), (by assumption), ?_⟩
  | refine Or.inl ⟨_, rfl, ?_⟩
  | refine Or.inr ⟨_, rfl, ?_⟩
  | refine ⟨_, _, rfl, (by walk_at "side"), ?_⟩
  | refine ⟨_, _, rfl, ?_⟩)
local macro_rules | `(tactic| walk_at "fld") => `(tactic| skip)
local macro_rules | `(tactic| walk_at "s") => `(tactic| repeat walk_at "1")
local macro_rules | `(tactic| walk_at "size") => `(tactic| first | exact Nat.le_of_ble_eq_true rfl | (simp only [List.length_map, List.length_append, List.length_cons, List.length_nil]; omega))
local macro_rules | `(tactic| walk_at "new") => `(tactic| (first | refine ⟨(by walk_at "size"), fun p hp => ?_⟩ | refine fun p hp => ?_); (generalize hq : upd _ p _ = H1); (obtain ⟨s, e⟩ := new_facts hp hq); clear hq)

/-- a row's text -/
def rowWords (f a : List (Option Int)) (m : Int) : List Str := f.map wordO ++ (("|" : Str) :: (a.map wordO ++ [("+" : Str), (toString m : String)]))
def rowText (f a : List (Option Int)) (m : Int) : Str := Txt.join " " (rowWords f a m)
/-- all numbers of a row are not too long -/
structure Small (f a : List (Option Int)) (m : Int) : Prop where
  lf : f.length < 500
  la : a.length < 500
  tm : ∀ x ∈ f ++ a, ∀ i, x = some i → i.natAbs < 10 ^ 20
  m0 : m.natAbs < 10 ^ 20
theorem log20 {n : Nat} (h : n < 10 ^ 20) : n.log2 < 1920 := by
  by_cases z : n = 0
  · subst z
    decide
  · exact (Nat.log2_lt z).mpr (Nat.lt_of_lt_of_le h (by decide))
theorem sum_le : ∀ (L : List Nat) (B : Nat), (∀ x ∈ L, x ≤ B) → L.sum ≤ B * L.length
  | [], _, _ => by simp
  | x :: L, B, h => by
    have ih := sum_le L B (fun y hy => h y (List.mem_cons_of_mem _ hy))
    have hx := h x (List.mem_cons_self ..)
    rw [List.sum_cons, List.length_cons, Nat.mul_succ]
    omega
theorem rowWords_len {f a : List (Option Int)} {m : Int} (S : Small f a m) : ∀ y ∈ rowWords f a m, y.length ≤ 21 := by
  intro y hy
  have ht := S.tm
  unfold rowWords at hy
  rcases List.mem_append.mp hy with h | h
  · obtain ⟨x, hx, rfl⟩ := List.mem_map.mp h
    exact wordLen (ht x (List.mem_append_left _ hx))
  · rcases List.mem_cons.mp h with rfl | h
    · exact (by decide : (PySem.Str.ofString "|").length ≤ 21)
    · rcases List.mem_append.mp h with h | h
      · obtain ⟨x, hx, rfl⟩ := List.mem_map.mp h
        exact wordLen (ht x (List.mem_append_right _ hx))
      · rcases List.mem_cons.mp h with rfl | h
        · exact (by decide : (PySem.Str.ofString "+").length ≤ 21)
        · obtain rfl := List.mem_singleton.mp h
          exact numLen (by decide) S.m0
theorem rowWords_size {f a : List (Option Int)} {m : Int} (S : Small f a m) : ((rowWords f a m).map (·.length)).sum + (rowWords f a m).length * (" " : Str).length ≤ 16777216 := by
  have h1 := sum_le ((rowWords f a m).map (·.length)) 21 (fun x hx => by
    obtain ⟨y, hy, rfl⟩ := List.mem_map.mp hx
    exact rowWords_len S y hy)
  have h2 : (rowWords f a m).length = f.length + a.length + 3 := by
    unfold rowWords
    simp only [List.length_append, List.length_map, List.length_cons, List.length_nil]
    omega
  have h3 : (" " : Str).length = 1 := by decide
  have := S.lf
  have := S.la
  rw [List.length_map, h2] at h1
  rw [h2, h3]
  omega
section
variable {P : Program} {w : World} {K : PySem.W.Frag} {mg : Str → Option Value} {base : Heap} {C : Addr}
abbrev s_Row_str : Stmt := inClass (topS 13) 6
theorem sc_Row_str : FnScope ["self", "first", "again", "thing"] ["self"] (defScope s_Row_str) := ⟨rfl, rfl, rfl, by decide +kernel, rfl, by decide +kernel, by decide +kernel⟩
def spStr (C : Addr) : Sp := fun vs H Q _ => ∃ (p : Addr) (f a : List (Option Int)) (m : Int), vs = [.ref p] ∧ RowAt C H p f a m ∧ Small f a m ∧ ∀ H', Same H H' → Q (.str (rowText f a m)) H'
theorem ok_str {f1 : Addr} {fd : FuncData} (F : Fun K "__str__" "Row.__str__" s_Row_str f1 fd) (R : RowCls K C) (mstr : mg "str" = none) (o_word_of : Own P w K mg base "_word_of" 1 ["thing"] spWord) : FnOk P w K mg base CX0 2 f1 fd ["self"] (spStr C) := by
  refine F.ok sc_Row_str (fun vs H Q E h => ?_) (fun cdv A outer s H vs Q E hr h => ?_)
  · obtain ⟨_, _, _, _, rfl, _⟩ := h
    rfl
  · obtain ⟨p, f, a, m, rfl, ⟨dx, pf, pa, h1, h2, h3⟩, S, k⟩ := h
    have h1000 : 1000 < sizeLine := small1000 (Nat.le_refl _)
    have cl := R.cl
    have nF := R.nF
    have nA := R.nA
    have nM := R.nM
    have hl := lk_again pf pa m
    have hl2 := lk_more pf pa m
    have hl3 := lk_first pf pa m
    have lf := S.lf
    have la := S.la
    refine ⟨_, (pss_cons (ps_setLc (i := 1) (own := [("thing", 3)]) (g := gName 3) (tt := tYes) rfl sc_Row_str.nd rfl rfl (sw_true rfl rfl rfl (by decide +kernel)) (pi_tup (pe_fld (pv 0) rfl)) (blkOk_by (own := [("thing", 3)]) (N := ["self", "first", "again", "thing"]) (sc := defScope s_Row_str) (by decide +kernel)) (fun _ _ _ _ _ => (pg_name (i := 3) sc_Row_str.nd rfl (Or.inl rfl))) (fun _ _ _ _ _ => pts_nil) (fun _ _ _ _ _ => (pe_own o_word_of (hr.mono (by decide)) (pa_cons (pv 3) pa_nil))))
  (pss_cons (ps_setLc (i := 2) (own := [("thing", 3)]) (g := gName 3) (tt := tYes) rfl sc_Row_str.nd rfl rfl (sw_true rfl rfl rfl (by decide +kernel)) (pi_tup (pe_fld (pv 0) rfl)) (blkOk_by (own := [("thing", 3)]) (N := ["self", "first", "again", "thing"]) (sc := defScope s_Row_str) (by decide +kernel)) (fun _ _ _ _ _ => (pg_name (i := 3) sc_Row_str.nd rfl (Or.inl rfl))) (fun _ _ _ _ _ => pts_nil) (fun _ _ _ _ _ => (pe_own o_word_of (hr.mono (by decide)) (pa_cons (pv 3) pa_nil))))
  (pss_one (ps_ret (pe_m1 PySem.F.slot_str_join PySem.F.type_str_join mt_join pe_str (pe_lst (StX.pa_star (pv 1) (pa_cons pe_str (StX.pa_star (pv 2) (pa_cons pe_str (pa_cons (pe_callTy call_str_int (by rfl) mstr (by decide +kernel) (pa_cons (pe_fld (pv 0) rfl) pa_nil)) pa_nil))))))))))), ?_⟩
    have step : ∀ (g : List (Option Int)) (L : Addr) (Hb : Hp), g.length < 500 → (∀ x ∈ g, ∀ i, x = some i → i.natAbs < 10 ^ 20) → ∀ (i : Nat) (x : V) (H'' : Hp), (g.map ov)[i]? = some x → Same Hb H'' → Hb L = none → H'' L = some (.lst (((g.take i).map wordO).map V.str)) → ∃ t : Option Int, x = ov t ∧ (∀ i, t = some i → i.natAbs.log2 < 1920) ∧ (((g.take i).map wordO).map V.str).length < sizeLine ∧
        Same Hb (upd H'' L (.lst ((((g.take i).map wordO).map V.str) ++ [V.str (wordO t)]))) ∧ (upd H'' L (.lst ((((g.take i).map wordO).map V.str) ++ [V.str (wordO t)]))) L = some (.lst (((g.take (i + 1)).map wordO).map V.str)) := by
      intro g L Hb lg hg i x H'' hi s1 nL e1
      obtain ⟨t, ht, rfl⟩ := get_map hi
      refine ⟨t, rfl, fun j hj => log20 (hg t (List.mem_of_getElem? ht) j hj), ?_, s1.upd1 nL, ?_⟩
      · rw [List.length_map, List.length_map, List.length_take]
        omega
      · rw [upd_same, take_succ_map wordO ht, List.map_append]
        rfl
    walk_at "s"
    refine ⟨⟨_, SqT.of h2⟩, fun L nL => lc_seq (seqIt_t (SqT.of h2)) (fun i H'' => Same H H'' ∧ H'' L = some (.lst (((f.take i).map wordO).map V.str))) ⟨same_upd nL, upd_same⟩ (fun i H'' q => q.1) ?_ ?_⟩
    · rintro i x H'' hi ⟨s1, e1⟩
      obtain ⟨t, rfl, hz, hl, fin⟩ := step f L H lf (fun x hx => S.tm x (List.mem_append_left _ hx)) i x H'' hi s1 nL e1
      walk_at "s"
      exact ⟨hz, _, e1, hl, fin⟩
    · rintro H1 ⟨s1, e1⟩
      rw [show (f.map ov).length = f.length by simp, List.take_length] at e1
      have h1' := s1 _ _ h1
      have h3' := s1 _ _ h3
      walk_at "s"
      refine ⟨⟨_, SqT.of h3'⟩, fun L2 nL2 => lc_seq (seqIt_t (SqT.of h3')) (fun i H'' => Same H1 H'' ∧ H'' L2 = some (.lst (((a.take i).map wordO).map V.str))) ⟨same_upd nL2, upd_same⟩ (fun i H'' q => q.1) ?_ ?_⟩
      · rintro i x H'' hi ⟨s2, e2⟩
        obtain ⟨t, rfl, hz, hl, fin⟩ := step a L2 H1 la (fun x hx => S.tm x (List.mem_append_right _ hx)) i x H'' hi s2 nL2 e2
        walk_at "s"
        exact ⟨hz, _, e2, hl, fin⟩
      · rintro H2 ⟨s2, e2⟩
        rw [show (a.map ov).length = a.length by simp, List.take_length] at e2
        have h1'' := s2 _ _ h1'
        have e1' := s2 _ _ e1
        refine ⟨⟨_, rfl⟩, ?_⟩
        refine ⟨_, rfl, _, _, rfl, Or.inr (SqL.of e1'), ?_⟩
        refine ⟨_, rfl, _, _, rfl, Or.inr (SqL.of e2), ?_⟩
        walk_at "s"
        refine ⟨log20 S.m0, ?_⟩
        walk_at "new"
        rename_i L3 nL3 H3 s3 e3
        refine ⟨_, _, rowWords f a m, rfl, rfl, Or.inl (SqL.of ?_), rowWords_size S, k _ (s1.trans (s2.trans s3))⟩
        rw [e3]
        unfold rowWords
        simp only [List.map_append, List.map_cons, List.map_nil, List.nil_append, List.cons_append, List.append_assoc, List.append_nil]
end
end My

namespace My
open PySem PySem.Spec PyProof.Rows L2
theorem later1_later1 (x y : Int) (z : Option Int) : later1 x (later1 y z) = later1 (y + x) z := by
  cases z with
  | none => rfl
  | some v =>
    show some (v + y + x) = some (v + (y + x))
    rw [Int.add_assoc]
theorem later1_zero (z : Option Int) : later1 0 z = z := by
  cases z with
  | none => rfl
  | some v =>
    show some (v + 0) = some v
    rw [Int.add_zero]
theorem gt_lt {xs : List (Option Int)} {i : Nat} (h : i < xs.length) : gt xs i = xs[i] := by
  unfold gt
  rw [List.getElem?_eq_getElem h]
  rfl
theorem get_some {xs : List (Option Int)} {i : Nat} (h : i < xs.length) : xs[i]? = some (gt xs i) := by
  rw [gt_lt h, List.getElem?_eq_getElem h]
/-- one turn of the again part -/
theorem fits_step {a : List (Option Int)} {m : Int} {t : Nat} (F : Fits a m t) {i : Nat} (h : i + t < a.length) : gt a (i + t) = later1 (m * t / a.length) (gt a i) := by
  have e := congrArg (fun l => l[i]?) F.eq
  simp only [List.getElem?_drop, List.getElem?_map] at e
  rw [List.getElem?_take_of_lt (by omega), Nat.add_comm t i] at e
  unfold gt
  rw [e]
  cases a[i]? with
  | none => rfl
  | some x => rfl
theorem fits_num {a : List (Option Int)} {m : Int} {t : Nat} (F : Fits a m t) {c : Nat} (hc : a.length = t * c) (h0 : 0 < a.length) : m = (m * t / a.length) * c := by
  have h1 : (m * t / a.length) * (a.length : Int) = m * t := by
    have := Int.mul_ediv_add_emod (m * t) a.length
    rw [F.num] at this
    rw [Int.mul_comm]
    omega
  have ht : (t : Int) ≠ 0 := by have := F.pos; omega
  generalize m * t / a.length = g at h1 ⊢
  have h2 : (g * c) * t = m * t := by
    rw [← h1, hc, Int.natCast_mul, Int.mul_assoc, Int.mul_comm (c : Int) (t : Int)]
  exact (Int.eq_of_mul_eq_mul_right ht h2).symm
theorem fits_iter {a : List (Option Int)} {m : Int} {t : Nat} (F : Fits a m t) (r : Nat) : ∀ j : Nat, r + j * t < a.length → gt a (r + j * t) = later1 (j * (m * t / a.length)) (gt a r)
  | 0, _ => by
    rw [Nat.zero_mul, Nat.add_zero, Int.natCast_zero, Int.zero_mul, later1_zero]
  | j + 1, h => by
    have e : r + (j + 1) * t = (r + j * t) + t := by rw [Nat.succ_mul, Nat.add_assoc]
    rw [e] at h ⊢
    rw [fits_step F h, fits_iter F r j (by omega), later1_later1]
    congr 1
    rw [show ((j + 1 : Nat) : Int) = (j : Int) + 1 by omega, Int.add_mul, Int.one_mul]
/-- the again part by its least turn -/
theorem again_least {a : List (Option Int)} {m : Int} {t : Nat} (F : Fits a m t) (h0 : 0 < a.length) (i : Nat) : later1 ((i / a.length : Nat) * m) (gt a (i % a.length)) = later1 ((i / t : Nat) * (m * t / a.length)) (gt a (i % t)) := by
  obtain ⟨c, hc⟩ := F.dvd
  have hm := fits_num F hc h0
  have ht := F.pos
  have hs : i % a.length = (i % a.length) % t + (i % a.length) / t * t := by
    have := Nat.mod_add_div (i % a.length) t
    rw [Nat.mul_comm t] at this
    exact this.symm
  have hlt := Nat.mod_lt i h0
  have e1 : (i % a.length) % t = i % t := by
    rw [hc]
    exact Nat.mod_mul_right_mod i t c
  have e2 : i / t = i / a.length * c + (i % a.length) / t := by
    have h1 : i = a.length * (i / a.length) + i % a.length := (Nat.div_add_mod i a.length).symm
    have h2 : a.length * (i / a.length) = t * (i / a.length * c) := by
      rw [show a.length * (i / a.length) = t * c * (i / a.length) by rw [← hc], Nat.mul_assoc, Nat.mul_comm c]
    have h3 : i = i % a.length + t * (i / a.length * c) := by omega
    calc i / t = (i % a.length + t * (i / a.length * c)) / t := by rw [← h3]
      _ = i % a.length / t + i / a.length * c := Nat.add_mul_div_left _ _ ht
      _ = _ := Nat.add_comm _ _
  have e3 : gt a (i % a.length) = later1 (((i % a.length) / t : Nat) * (m * t / a.length)) (gt a (i % t)) := by
    have h4 := fits_iter F ((i % a.length) % t) ((i % a.length) / t) (by rw [← hs]; exact hlt)
    rw [← hs, e1] at h4
    exact h4
  rw [e3, later1_later1]
  congr 1
  rw [e2, Int.natCast_add, Int.add_mul, Int.add_comm, Int.natCast_mul]
  congr 1
  have : (((i / a.length : Nat) : Int) * m) = ((i / a.length : Nat) : Int) * ((m * t / a.length) * c) := by rw [← hm]
  rw [this, Int.mul_assoc]
  congr 1
  exact Int.mul_comm _ _
section
variable {f a : List (Option Int)} {m : Int}
theorem tm_lt {n : Nat} (h : n < f.length + a.length) : tmR f a m n = gt (f ++ a) n := by
  unfold tmR gt
  by_cases c : n < f.length
  · rw [if_pos c, List.getElem?_append_left c]
  · have c2 : n - f.length < a.length := by omega
    rw [if_neg c, List.getElem?_append_right (by omega), Nat.div_eq_of_lt c2, Nat.mod_eq_of_lt c2, Int.natCast_zero, Int.zero_mul, later1_zero]
theorem tm_ge {t : Nat} (F : Fits a m t) (h0 : 0 < a.length) {n : Nat} (h : f.length ≤ n) : tmR f a m n = later1 (((n - f.length) / t : Nat) * (m * t / a.length)) (gt a ((n - f.length) % t)) := by
  unfold tmR
  rw [if_neg (by omega)]
  exact again_least F h0 _
/-- from b on all comes again -/
theorem tm_step {t b : Nat} (F : LeastTurn a m t) (S : ShortF (f ++ a) t (m * t / a.length) f.length b) (h0 : 0 < a.length) {n : Nat} (h : b ≤ n) : tmR f a m (n + t) = later1 (m * t / a.length) (tmR f a m n) := by
  have ht := F.fits.pos
  have hle := F.le
  by_cases c : n < f.length
  · have e := S.eq n h c
    have l1 : n + t < (f ++ a).length := by rw [List.length_append]; omega
    have l2 : n < (f ++ a).length := by rw [List.length_append]; omega
    rw [tm_lt (n := n + t) (by omega), tm_lt (n := n) (by omega)]
    rw [get_some l1, get_some l2] at e
    exact Option.some.inj e
  · rw [tm_ge F.fits h0 (n := n + t) (by omega), tm_ge F.fits h0 (n := n) (by omega), later1_later1]
    have e1 : (n + t - f.length) = (n - f.length) + t := by omega
    rw [e1, Nat.add_div_right _ ht, Nat.add_mod_right]
    congr 1
    rw [show (((n - f.length) / t + 1 : Nat) : Int) = (((n - f.length) / t : Nat) : Int) + 1 by omega, Int.add_mul, Int.one_mul]
theorem tm_iter {t b : Nat} (F : LeastTurn a m t) (S : ShortF (f ++ a) t (m * t / a.length) f.length b) (h0 : 0 < a.length) {n : Nat} (h : b ≤ n) : ∀ q : Nat, tmR f a m (n + q * t) = later1 (q * (m * t / a.length)) (tmR f a m n)
  | 0 => by rw [Nat.zero_mul, Nat.add_zero, Int.natCast_zero, Int.zero_mul, later1_zero]
  | q + 1 => by
    rw [show n + (q + 1) * t = (n + q * t) + t by rw [Nat.succ_mul, Nat.add_assoc], tm_step F S h0 (by omega), tm_iter F S h0 h q, later1_later1]
    congr 1
    rw [show ((q + 1 : Nat) : Int) = (q : Int) + 1 by omega, Int.add_mul, Int.one_mul]
theorem gt_take {xs : List (Option Int)} {b n : Nat} (h : n < b) : gt (xs.take b) n = gt xs n := by
  unfold gt
  rw [List.getElem?_take_of_lt h]
theorem gt_mid {xs : List (Option Int)} {b t n : Nat} (h : n < t) : gt ((xs.drop b).take t) n = gt xs (b + n) := by
  unfold gt
  rw [List.getElem?_take_of_lt h, List.getElem?_drop]
/-- what is made has the same times -/
theorem made_times {f' a' : List (Option Int)} {m' : Int} (M : MadeOf f a m f' a' m') (h0 : 0 < a.length) (n : Nat) : tmR f' a' m' n = tmR f a m n := by
  obtain ⟨t, b, F, S, rfl, rfl, rfl⟩ := M
  have ht := F.fits.pos
  have hle := F.le
  have hb := S.le
  have l1 : ((f ++ a).take b).length = b := by rw [List.length_take, List.length_append]; omega
  have l2 : (((f ++ a).drop b).take t).length = t := by rw [List.length_take, List.length_drop, List.length_append]; omega
  by_cases c : n < b
  · rw [show tmR f a m n = gt (f ++ a) n from tm_lt (by omega)]
    unfold tmR
    rw [l1, if_pos c, gt_take c]
  · have hr : (n - b) % t < t := Nat.mod_lt _ ht
    have e : n = (b + (n - b) % t) + (n - b) / t * t := by
      have := Nat.mod_add_div (n - b) t
      rw [Nat.mul_comm t] at this
      omega
    unfold tmR
    rw [l1, l2, if_neg c, gt_mid hr]
    have e2 := tm_iter F S h0 (n := b + (n - b) % t) (by omega) ((n - b) / t)
    rw [← e, tm_lt (n := b + (n - b) % t) (by omega)] at e2
    unfold tmR at e2
    exact e2.symm
end
end My

namespace My
open PySem PySem.Spec PyProof.Rows L2
def leO : Option Int → Option Int → Prop
  | none, _ => True
  | some _, none => False
  | some x, some y => x ≤ y
theorem leO_refl : ∀ x, leO x x
  | none => trivial
  | some x => Int.le_refl x
theorem leO_trans : ∀ {x y z}, leO x y → leO y z → leO x z
  | none, _, _, _, _ => trivial
  | some _, none, _, h, _ => h.elim
  | some _, some _, none, _, h => h.elim
  | some _, some _, some _, h1, h2 => Int.le_trans h1 h2
section
variable {f a : List (Option Int)} {m : Int}
theorem mono_all (h : ∀ n, leO (tmR f a m n) (tmR f a m (n + 1))) {i j : Nat} (hij : i ≤ j) : leO (tmR f a m i) (tmR f a m j) := by
  obtain ⟨d, rfl⟩ := Nat.le.dest hij
  induction d with
  | zero => exact leO_refl _
  | succ d ih => exact leO_trans (ih (by omega)) (h (i + d))
theorem tm_f {n : Nat} (h : n < f.length) : tmR f a m n = gt f n := if_pos h
theorem tm_a {r : Nat} (q : Nat) (h : r < a.length) : tmR f a m (f.length + (r + q * a.length)) = later1 (q * m) (gt a r) := by
  unfold tmR
  rw [if_neg (by omega), Nat.add_sub_cancel_left, Nat.add_mul_mod_self_right, Nat.mod_eq_of_lt h, Nat.add_mul_div_right _ _ (by omega), Nat.div_eq_of_lt h, Nat.zero_add]
end
end My

namespace My
open PySem PySem.Spec PyProof.Rows L2
/-- what never falls: nothing, then times -/
def rise2 : Option Int → List (Option Int) → Bool
  | _, [] => true
  | none, t :: r => rise2 t r
  | some _, none :: _ => false
  | some l, some x :: r => if x < l then false else rise2 (some x) r
theorem rise2_chB : ∀ (l : Option Int) (xs : List (Option Int)), rise2 l xs = chB l xs
  | none, [] => rfl
  | some _, [] => rfl
  | none, x :: r => by
    show rise2 x r = (!false && chB x r)
    rw [rise2_chB x r]
    rfl
  | some _, none :: r => rfl
  | some l, some x :: r => by
    show (if x < l then false else rise2 (some x) r) = (!decide (x < l) && chB (some x) r)
    rw [rise2_chB (some x) r]
    by_cases h : x < l
    · rw [if_pos h, decide_eq_true h]
      rfl
    · rw [if_neg h, decide_eq_false h]
      rfl
/-- a row's arguments as they should be -/
structure OkRow (f a : List (Option Int)) (m : Int) : Prop where
  rf : rise2 none f = true
  ra : rise2 none a = true
  ne : a ≠ []
  ct : (∃ lo hi : Int, a.head? = some (some lo) ∧ a.getLast? = some (some hi) ∧ (∀ e, f.getLast? = some (some e) → e ≤ lo) ∧ 0 ≤ m ∧ hi - lo ≤ m) ∨
    (a.head? = some none ∧ a.getLast? = some none ∧ (f.getLast? = none ∨ f.getLast? = some none) ∧ m = 0)
theorem OkRow.word {f a : List (Option Int)} {m : Int} (O : OkRow f a m) : 0 ≤ m ∧ wordA (some (f.map some)) (some (a.map some)) (some (some m)) = none := by
  have m0 : 0 ≤ m := by
    rcases O.ct with ⟨_, _, _, _, _, h, _⟩ | ⟨_, _, _, rfl⟩
    · exact h
    · exact Int.le_refl _
  refine ⟨m0, (wrong_iff m0 O.ne).mpr ⟨?_, ?_⟩⟩
  · have hf := O.rf
    have ha := O.ra
    rw [rise2_chB] at hf ha
    rw [chB_app, hf, Bool.true_and]
    cases a with
    | nil => exact absurd rfl O.ne
    | cons y r =>
      have hr : (!false && chB y r) = true := ha
      show (!pairBad (f.getLast?.getD none) y && chB y r) = true
      rw [Bool.and_eq_true] at hr ⊢
      refine ⟨?_, hr.2⟩
      rcases O.ct with ⟨lo, hi, h1, _, h3, _⟩ | ⟨h1, _, h3, _⟩
      · obtain rfl := Option.some.inj (show some y = some (some lo) from h1)
        cases hl : f.getLast? with
        | none => rfl
        | some e =>
          cases e with
          | none => rfl
          | some e =>
            show (!decide (lo < e)) = true
            have := h3 e hl
            rw [decide_eq_false (by omega)]
            rfl
      · obtain rfl := Option.some.inj (show some y = some none from h1)
        rcases h3 with h | h
        · rw [h]
          rfl
        · rw [h]
          rfl
  · unfold TurnIn
    rcases O.ct with ⟨lo, hi, h1, h2, _, _, h5⟩ | ⟨h1, h2, _, h4⟩
    · rw [h1, h2]
      show hi ≤ lo + m
      omega
    · rw [h1, h2]
      exact ⟨rfl, h4⟩
theorem rise2_some : ∀ (L : List Int) (l : Int), (∀ x ∈ L, l ≤ x) → L.Pairwise (· ≤ ·) → rise2 (some l) (L.map some) = true
  | [], _, _, _ => rfl
  | x :: r, l, h, p => by
    have hx := h x List.mem_cons_self
    rw [List.pairwise_cons] at p
    show (if x < l then false else rise2 (some x) (r.map some)) = true
    rw [if_neg (by omega)]
    exact rise2_some r x p.1 p.2
theorem rise2_all (L : List Int) (p : L.Pairwise (· ≤ ·)) : rise2 none (L.map some) = true := by
  cases L with
  | nil => rfl
  | cons x r =>
    rw [List.pairwise_cons] at p
    exact rise2_some r x p.1 p.2
theorem rise2_none : ∀ (n : Nat) (R : List (Option Int)), rise2 none (List.replicate n none ++ R) = rise2 none R
  | 0, _ => rfl
  | n + 1, R => rise2_none n R
theorem head_le {L : List Int} (p : L.Pairwise (· ≤ ·)) {lo x : Int} (h : L.head? = some lo) (hx : x ∈ L) : lo ≤ x := by
  cases L with
  | nil => cases h
  | cons y r =>
    have e : y = lo := Option.some.inj h
    subst e
    rw [List.pairwise_cons] at p
    rcases List.mem_cons.mp hx with rfl | q
    · exact Int.le_refl _
    · exact p.1 x q
theorem le_last {L : List Int} (p : L.Pairwise (· ≤ ·)) {hi x : Int} (h : L.getLast? = some hi) (hx : x ∈ L) : x ≤ hi := by
  obtain ⟨ys, rfl⟩ := List.getLast?_eq_some_iff.mp h
  rw [List.pairwise_append] at p
  rcases List.mem_append.mp hx with q | q
  · exact p.2.2 x q hi (List.mem_singleton.mpr rfl)
  · rw [List.mem_singleton.mp q]
    exact Int.le_refl _
/-- what a told row is: nothing, then times that never fall -/
structure ShapeG (f a : List (Option Int)) (m : Int) : Prop where
  ex : ∃ (nn : Nat) (fl al : List Int) (lo hi : Int), f = List.replicate nn none ++ fl.map some ∧ a = al.map some ∧ (fl ++ al).Pairwise (· ≤ ·) ∧ al.head? = some lo ∧ al.getLast? = some hi ∧ hi - lo ≤ m ∧ m ≤ 999 ∧ nn ≤ 2 ∧ nn + fl.length ≤ 20 ∧ al.length ≤ 12 ∧ (∀ x ∈ fl ++ al, -2000 ≤ x ∧ x ≤ 2000)
theorem Shape.g {f a : List (Option Int)} {m : Int} (S : Shape f a m) : ShapeG f a m := by
  obtain ⟨nn, fl, al, lo, hi, rfl, rfl, hp, hlo, hhi, h1, h2, hn, hf, ha, hb⟩ := S.ex
  have b1 := hb lo (List.mem_append_right _ (List.mem_of_mem_head? hlo))
  have b2 := hb hi (List.mem_append_right _ (List.mem_of_getLast? hhi))
  exact ⟨nn, fl, al, lo, hi, rfl, rfl, hp, hlo, hhi, h1, by omega, hn, by omega, by omega, fun x hx => by have := hb x hx; omega⟩
section
variable {f a : List (Option Int)} {m : Int}
theorem ShapeG.ok (S : ShapeG f a m) : OkRow f a m := by
  obtain ⟨nn, fl, al, lo, hi, rfl, rfl, hp, hlo, hhi, h1, h2, hn, hf, ha, hb⟩ := S.ex
  have hp' := List.pairwise_append.mp hp
  have hal : al ≠ [] := fun e => by
    rw [e] at hlo
    cases hlo
  refine ⟨?_, rise2_all al hp'.2.1, fun e => hal (List.map_eq_nil_iff.mp e), Or.inl ⟨lo, hi, ?_, ?_, fun e he => ?_, ?_, h1⟩⟩
  · rw [rise2_none]
    exact rise2_all fl hp'.1
  · rw [List.head?_map, hlo]
    rfl
  · rw [List.getLast?_map, hhi]
    rfl
  · have := List.mem_of_getLast? he
    rcases List.mem_append.mp this with q | q
    · have := (List.mem_replicate.mp q).2
      cases this
    · obtain ⟨x, hx, e1⟩ := List.mem_map.mp q
      have e2 : x = e := Option.some.inj e1
      rw [← e2]
      exact hp'.2.2 x hx lo (List.mem_of_mem_head? hlo)
  · have := head_le hp'.2.1 hlo (List.mem_of_getLast? hhi)
    omega
theorem ShapeG.parts (S : ShapeG f a m) : Parts f a m := by
  obtain ⟨nn, fl, al, lo, hi, rfl, rfl, hp, hlo, hhi, h1, h2, hn, hf, ha, hb⟩ := S.ex
  have hp' := List.pairwise_append.mp hp
  have hle := head_le hp'.2.1 hlo (List.mem_of_getLast? hhi)
  have b1 := hb lo (List.mem_append_right _ (List.mem_of_mem_head? hlo))
  have b2 := hb hi (List.mem_append_right _ (List.mem_of_getLast? hhi))
  refine ⟨fun e => ?_, ?_, ?_, by omega, by omega⟩
  · rw [List.map_eq_nil_iff.mp e] at hlo
    cases hlo
  · rw [List.length_append, List.length_replicate, List.length_map]
    omega
  · rw [List.length_map]
    omega
theorem gt_mapsome {L : List Int} {i : Nat} (h : i < L.length) : gt (L.map some) i = some L[i] := by
  rw [gt_lt (by rw [List.length_map]; exact h), List.getElem_map]
theorem ShapeG.mono (S : ShapeG f a m) (n : Nat) : leO (tmR f a m n) (tmR f a m (n + 1)) := by
  have ok := S.ok
  have hne : 0 < a.length := List.length_pos_iff.mpr ok.ne
  obtain ⟨nn, fl, al, lo, hi, rfl, rfl, hp, hlo, hhi, h1, h2, hn, hf, ha, hb⟩ := S.ex
  have hp' := List.pairwise_append.mp hp
  rw [List.length_map] at hne
  have hl : (List.replicate nn none ++ fl.map some).length = nn + fl.length := by rw [List.length_append, List.length_replicate, List.length_map]
  have hla : (al.map some).length = al.length := List.length_map ..
  by_cases c : n + 1 < nn + fl.length + al.length
  · rw [tm_lt (n := n) (by omega), tm_lt (n := n + 1) (by omega)]
    have e : (List.replicate nn none ++ fl.map some ++ al.map some) = List.replicate nn none ++ (fl ++ al).map some := by rw [List.append_assoc, List.map_append]
    rw [e]
    by_cases cn : n < nn
    · have : gt (List.replicate nn none ++ (fl ++ al).map some) n = none := by
        unfold gt
        rw [List.getElem?_append_left (by rw [List.length_replicate]; exact cn), List.getElem?_replicate]
        rw [if_pos cn]
        rfl
      rw [this]
      trivial
    · have g : ∀ i, nn ≤ i → i < nn + (fl ++ al).length → gt (List.replicate nn none ++ (fl ++ al).map some) i = gt ((fl ++ al).map some) (i - nn) := fun i h _ => by
        unfold gt
        rw [List.getElem?_append_right (by rw [List.length_replicate]; exact h), List.length_replicate]
      have hlen : (fl ++ al).length = fl.length + al.length := List.length_append
      rw [g n (by omega) (by omega), g (n + 1) (by omega) (by omega), gt_mapsome (i := n - nn) (by omega), gt_mapsome (i := n + 1 - nn) (by omega)]
      exact List.pairwise_iff_getElem.mp hp (n - nn) (n + 1 - nn) (by omega) (by omega) (by omega)
  · have tma : ∀ i, nn + fl.length ≤ i → tmR (List.replicate nn none ++ fl.map some) (al.map some) m i = later1 (((i - (nn + fl.length)) / al.length : Nat) * m) (gt (al.map some) ((i - (nn + fl.length)) % al.length)) := fun i h => by
      unfold tmR
      rw [hl, hla, if_neg (by omega)]
    by_cases c0 : n < nn + fl.length
    · have : al.length = 0 := by omega
      omega
    · rw [tma n (by omega), tma (n + 1) (by omega)]
      have e1 : n + 1 - (nn + fl.length) = (n - (nn + fl.length)) + 1 := by omega
      rw [e1]
      generalize n - (nn + fl.length) = i
      have hr : i % al.length < al.length := Nat.mod_lt _ hne
      rw [gt_mapsome hr]
      by_cases cr : i % al.length + 1 < al.length
      · have d1 : (i + 1) / al.length = i / al.length := by
          rw [Nat.succ_div, if_neg, Nat.add_zero]
          intro hd
          have := Nat.mod_eq_zero_of_dvd hd
          rw [Nat.add_mod, Nat.mod_eq_of_lt (a := 1) (by omega), Nat.mod_eq_of_lt cr] at this
          omega
        have d2 : (i + 1) % al.length = i % al.length + 1 := by
          rw [Nat.add_mod, Nat.mod_eq_of_lt (a := 1) (by omega), Nat.mod_eq_of_lt cr]
        have hrr : (i + 1) % al.length < al.length := by omega
        rw [gt_mapsome hrr, d1]
        have := List.pairwise_iff_getElem.mp hp'.2.1 (i % al.length) ((i + 1) % al.length) hr hrr (by omega)
        show al[i % al.length] + _ ≤ al[(i + 1) % al.length] + _
        omega
      · have er : i % al.length = al.length - 1 := by omega
        have hd : al.length ∣ i + 1 := by
          refine Nat.dvd_of_mod_eq_zero ?_
          by_cases h1 : al.length = 1
          · rw [h1]
            exact Nat.mod_one _
          · rw [Nat.add_mod, Nat.mod_eq_of_lt (a := 1) (by omega), er, Nat.sub_add_cancel (by omega), Nat.mod_self]
        have d1 : (i + 1) / al.length = i / al.length + 1 := by rw [Nat.succ_div, if_pos hd]
        have d2 : (i + 1) % al.length = 0 := Nat.mod_eq_zero_of_dvd hd
        rw [gt_mapsome (i := (i + 1) % al.length) (by omega), d1]
        have m1 : al[i % al.length] ≤ hi := le_last hp'.2.1 hhi (List.getElem_mem hr)
        have m2 : lo ≤ al[(i + 1) % al.length]'(by omega) := head_le hp'.2.1 hlo (List.getElem_mem _)
        show al[i % al.length] + ((i / al.length : Nat) : Int) * m ≤ al[(i + 1) % al.length]'(by omega) + ((i / al.length + 1 : Nat) : Int) * m
        rw [show ((i / al.length + 1 : Nat) : Int) = ((i / al.length : Nat) : Int) + 1 by omega, Int.add_mul, Int.one_mul]
        omega

theorem ShapeG.ne (S : ShapeG f a m) : 0 < a.length := List.length_pos_iff.mpr S.ok.ne
theorem ShapeG.first (S : ShapeG f a m) : ∃ lo, tmR f a m f.length = some lo ∧ -2000 ≤ lo ∧ lo ≤ 2000 := by
  have hne : 0 < a.length := S.ne
  obtain ⟨nn, fl, al, lo, hi, rfl, rfl, hp, hlo, hhi, h1, h2, hn, hf, ha, hb⟩ := S.ex
  have b1 := hb lo (List.mem_append_right _ (List.mem_of_mem_head? hlo))
  refine ⟨lo, ?_, b1.1, b1.2⟩
  have := tm_a (f := List.replicate nn none ++ fl.map some) (m := m) 0 hne
  rw [Nat.zero_mul, Nat.add_zero, Int.natCast_zero, Int.zero_mul, later1_zero] at this
  rw [this]
  cases al with
  | nil => cases hlo
  | cons w r => exact hlo
theorem ShapeG.live (S : ShapeG f a m) (n : Nat) (h : f.length ≤ n) : ∃ x, tmR f a m n = some x := by
  obtain ⟨lo, h1, _⟩ := S.first
  have h2 := mono_all S.mono h
  rw [h1] at h2
  cases e : tmR f a m n with
  | none =>
    rw [e] at h2
    exact h2.elim
  | some x => exact ⟨x, rfl⟩
theorem ShapeG.lens (S : ShapeG f a m) : f.length ≤ 20 ∧ a.length ≤ 12 ∧ m ≤ 999 := by
  obtain ⟨nn, fl, al, lo, hi, rfl, rfl, hp, hlo, hhi, h1, h2, hn, hf, ha, hb⟩ := S.ex
  refine ⟨by rw [List.length_append, List.length_replicate, List.length_map]; omega, by rw [List.length_map]; omega, h2⟩
theorem ShapeG.bound (S : ShapeG f a m) {n : Nat} (h : n < 100) {x : Int} (hx : tmR f a m n = some x) : -2000 ≤ x ∧ x ≤ 102000 := by
  have hne := S.ne
  have p := S.parts
  have l := S.lens
  have m0 := p.m0
  obtain ⟨nn, fl, al, lo, hi, rfl, rfl, hp, hlo, hhi, h1, h2, hn, hf, ha, hb⟩ := S.ex
  unfold tmR at hx
  by_cases c : n < (List.replicate nn none ++ fl.map some).length
  · rw [if_pos c, gt_lt c] at hx
    have := List.getElem_mem c
    rw [hx] at this
    rcases List.mem_append.mp this with q | q
    · cases (List.mem_replicate.mp q).2
    · obtain ⟨y, hy, e⟩ := List.mem_map.mp q
      cases e
      have := hb x (List.mem_append_left _ hy)
      omega
  · rw [if_neg c] at hx
    have hr : (n - (List.replicate nn none ++ fl.map some).length) % (al.map some).length < (al.map some).length := Nat.mod_lt _ hne
    rw [gt_lt hr] at hx
    have hmem := List.getElem_mem hr
    obtain ⟨y, hy, e⟩ := List.mem_map.mp hmem
    rw [← e] at hx
    have e2 : y + ((n - (List.replicate nn none ++ fl.map some).length) / (al.map some).length : Nat) * m = x := Option.some.inj hx
    have hd : (n - (List.replicate nn none ++ fl.map some).length) / (al.map some).length ≤ n - (List.replicate nn none ++ fl.map some).length := Nat.div_le_self _ _
    generalize (n - (List.replicate nn none ++ fl.map some).length) / (al.map some).length = q at e2 hd
    have hq : q < 100 := by omega
    have hq0 : (0 : Int) ≤ (q : Int) * m := Int.mul_nonneg (Int.natCast_nonneg q) m0
    have hq1 : (q : Int) * m ≤ 100 * 999 := by
      have a1 : (q : Int) * m ≤ 100 * m := Int.mul_le_mul_of_nonneg_right (by omega) m0
      omega
    have := hb y (List.mem_append_right _ hy)
    omega
/-- a row whose parts are told off monotone times is right -/
theorem rise2_from : ∀ (k : Nat) (g : Nat → Option Int), (∀ n, leO (g n) (g (n + 1))) → rise2 (g 0) ((List.range k).map fun i => g (i + 1)) = true
  | 0, g, _ => by cases g 0 <;> rfl
  | k + 1, g, h => by
    rw [List.range_succ_eq_map, List.map_cons, List.map_map]
    have ih := rise2_from k (fun n => g (n + 1)) (fun n => h (n + 1))
    have h0 := h 0
    show rise2 (g 0) (g 1 :: ((List.range k).map fun i => g (i + 1 + 1))) = true
    have ih' : rise2 (g 1) ((List.range k).map fun i => g (i + 1 + 1)) = true := ih
    cases e0 : g 0 with
    | none => exact ih'
    | some l =>
      cases e1 : g 1 with
      | none =>
        rw [e0, show (0 : Nat) + 1 = 1 from rfl, e1] at h0
        exact h0.elim
      | some x =>
        rw [e0, show (0 : Nat) + 1 = 1 from rfl, e1] at h0
        have h0' : l ≤ x := h0
        rw [e1] at ih'
        show (if x < l then false else rise2 (some x) _) = true
        rw [if_neg (by omega)]
        exact ih'
theorem rise2_of (k : Nat) (g : Nat → Option Int) (h : ∀ n, leO (g n) (g (n + 1))) : rise2 none ((List.range k).map g) = true := by
  cases k with
  | zero => rfl
  | succ k =>
    rw [List.range_succ_eq_map, List.map_cons, List.map_map]
    exact rise2_from k g h
theorem ok_of_mono {s : Nat → Option Int} {B T : Nat} {M : Int} (mono : ∀ n, leO (s n) (s (n + 1))) (live : ∀ n, B ≤ n → ∃ x, s n = some x) (hT : 0 < T) (hM : 0 ≤ M) (hg : s (B + T) = later1 M (s B)) :
    OkRow ((List.range B).map s) ((List.range T).map fun i => s (B + i)) M := by
  obtain ⟨lo, hlo⟩ := live B (Nat.le_refl _)
  obtain ⟨hi, hhi⟩ := live (B + (T - 1)) (by omega)
  have mono' : ∀ i j, i ≤ j → leO (s i) (s j) := fun i j h => by
    obtain ⟨d, rfl⟩ := Nat.le.dest h
    induction d with
    | zero => exact leO_refl _
    | succ d ih => exact leO_trans (ih (by omega)) (mono (i + d))
  refine ⟨rise2_of B s mono, rise2_of T (fun i => s (B + i)) (fun n => mono (B + n)), fun e => ?_, Or.inl ⟨lo, hi, ?_, ?_, fun e he => ?_, hM, ?_⟩⟩
  · have := congrArg List.length e
    rw [List.length_map, List.length_range] at this
    simp at this
    omega
  · cases T with
    | zero => omega
    | succ T =>
      rw [List.range_succ_eq_map, List.map_cons, List.head?_cons, Nat.add_zero, hlo]
  · cases T with
    | zero => omega
    | succ T =>
      rw [List.range_succ, List.map_append, List.map_cons, List.map_nil, List.getLast?_concat]
      rw [show T + 1 - 1 = T by omega] at hhi
      rw [hhi]
  · cases B with
    | zero => cases he
    | succ B =>
      rw [List.range_succ, List.map_append, List.map_cons, List.map_nil, List.getLast?_concat] at he
      have e1 : s B = some e := Option.some.inj he
      have := mono B
      rw [e1, hlo] at this
      exact this
  · have h1 := mono' (B + (T - 1)) (B + T) (by omega)
    rw [hg, hlo, hhi] at h1
    have h2 : hi ≤ lo + M := h1
    omega
end
end My

namespace My
open PySem PySem.Spec PyProof.Rows L2
/-- from b on all comes again t goings later, g later -/
def Qp (s : Nat → Option Int) (b t : Nat) (g : Int) : Prop := ∀ n, b ≤ n → s (n + t) = later1 g (s n)
theorem later1_inj {g : Int} {x y : Option Int} (h : later1 g x = later1 g y) : x = y := by
  cases x <;> cases y
  · rfl
  · cases h
  · cases h
  · rename_i i j
    have : i + g = j + g := Option.some.inj h
    rw [show i = j by omega]
theorem later1_g {g g' : Int} {x : Option Int} (n : x ≠ none) (h : later1 g x = later1 g' x) : g = g' := by
  cases x with
  | none => exact absurd rfl n
  | some i =>
    have : i + g = i + g' := Option.some.inj h
    omega
theorem Qp.mono {s : Nat → Option Int} {b b' t : Nat} {g : Int} (q : Qp s b t g) (h : b ≤ b') : Qp s b' t g := fun n hn => q n (Nat.le_trans h hn)
theorem Qp.iter {s : Nat → Option Int} {b t : Nat} {g : Int} (q : Qp s b t g) {n : Nat} (h : b ≤ n) : ∀ k : Nat, s (n + k * t) = later1 (k * g) (s n)
  | 0 => by rw [Nat.zero_mul, Nat.add_zero, Int.natCast_zero, Int.zero_mul, later1_zero]
  | k + 1 => by
    rw [show n + (k + 1) * t = (n + k * t) + t by rw [Nat.succ_mul, Nat.add_assoc], q _ (by omega), q.iter h k, later1_later1]
    congr 1
    rw [show ((k + 1 : Nat) : Int) = (k : Int) + 1 by omega, Int.add_mul, Int.one_mul]
/-- a turn on one turn of a row is a turn for ever -/
theorem Qp.spread {s : Nat → Option Int} {b q p : Nat} {m g : Int} (h : Qp s b q m) (hq : 0 < q) (hw : ∀ n, b ≤ n → n < b + q → s (n + p) = later1 g (s n)) : Qp s b p g := by
  intro n hn
  have hr : (n - b) % q < q := Nat.mod_lt _ hq
  have e : n = (b + (n - b) % q) + (n - b) / q * q := by
    have := Nat.mod_add_div (n - b) q
    rw [Nat.mul_comm q] at this
    omega
  generalize hn0 : b + (n - b) % q = n0 at e
  generalize (n - b) / q = k at e
  have h0 : b ≤ n0 := by omega
  have h1 : n0 < b + q := by omega
  rw [e, show n0 + k * q + p = (n0 + p) + k * q by omega, h.iter (by omega) k, h.iter h0 k, hw n0 h0 h1, later1_later1, later1_later1]
  congr 1
  omega
/-- a row never falls to nothing again: so a growth is one number -/
theorem Qp.sub {s : Nat → Option Int} {b q p : Nat} {m g : Int} (hq : Qp s b q m) (hp : Qp s b p g) (k r : Nat) (e : q = k * p + r) : Qp s b r (m - k * g) := by
  intro n hn
  have h1 := hq n hn
  have h2 : s (n + q) = later1 (k * g) (s (n + r)) := by
    rw [e, show n + (k * p + r) = (n + r) + k * p by omega]
    exact hp.iter (by omega) k
  rw [h2] at h1
  have h3 : later1 (k * g) (s (n + r)) = later1 (k * g) (later1 (m - k * g) (s n)) := by
    rw [h1, later1_later1]
    congr 1
    omega
  exact later1_inj h3
/-- there is a least turn, and it divides each -/
theorem least_turn {s : Nat → Option Int} (b : Nat) : ∀ q : Nat, 0 < q → (∃ m, Qp s b q m) → ∃ p g, 0 < p ∧ Qp s b p g ∧ (∀ p', 0 < p' → p' < p → ¬ ∃ g', Qp s b p' g') ∧ ∀ q' m', Qp s b q' m' → p ∣ q' := by
  intro q
  induction q using Nat.strongRecOn with
  | ind q ih =>
    rintro h0 ⟨m, hq⟩
    by_cases c : ∃ p', 0 < p' ∧ p' < q ∧ ∃ g', Qp s b p' g'
    · obtain ⟨p', h1, h2, h3⟩ := c
      exact ih p' h2 h1 h3
    · refine ⟨q, m, h0, hq, fun p' h1 h2 h3 => c ⟨p', h1, h2, h3⟩, fun q' m' h' => ?_⟩
      have hr : q' % q < q := Nat.mod_lt _ h0
      have e : q' = q' / q * q + q' % q := by
        have := Nat.div_add_mod q' q
        rw [Nat.mul_comm] at this
        exact this.symm
      by_cases z : q' % q = 0
      · exact Nat.dvd_of_mod_eq_zero z
      · exact absurd ⟨q' % q, by omega, hr, _, h'.sub hq _ _ e⟩ c
section
variable {f a : List (Option Int)} {m : Int}
theorem tm_qp (h0 : 0 < a.length) : Qp (tmR f a m) f.length a.length m := by
  intro n hn
  unfold tmR
  rw [if_neg (by omega), if_neg (by omega), later1_later1, show n + a.length - f.length = (n - f.length) + a.length by omega, Nat.add_div_right _ h0, Nat.add_mod_right]
  congr 1
  rw [show (((n - f.length) / a.length + 1 : Nat) : Int) = (((n - f.length) / a.length : Nat) : Int) + 1 by omega, Int.add_mul, Int.one_mul]
/-- the times are above nothing from the place f.length on -/
def Lives (f a : List (Option Int)) (m : Int) : Prop := ∀ n, f.length ≤ n → tmR f a m n ≠ none
theorem least_is {t b : Nat} (F : LeastTurn a m t) (h0 : 0 < a.length) (L : Lives f a m) {B t' : Nat} {g' : Int} (h' : 0 < t') (q : Qp (tmR f a m) B t' g') : t ≤ t' := by
  have hq := tm_qp (f := f) (m := m) h0
  generalize hM : max B f.length = M
  have hMB : B ≤ M := by omega
  have hMf : f.length ≤ M := by omega
  obtain ⟨p, g, p0, hp, hleast, hdvd⟩ := least_turn M a.length h0 ⟨m, hq.mono hMf⟩
  have hpt : p ≤ t' := Nat.le_of_dvd h' (hdvd t' g' (q.mono hMB))
  obtain ⟨k, hk⟩ := hdvd a.length m (hq.mono hMf)
  have hm : m = k * g := by
    have h1 := hp.iter (Nat.le_refl M) k
    have h2 := hq M hMf
    rw [hk, Nat.mul_comm p k, h1] at h2
    exact (later1_g (L M hMf) h2).symm
  have hkp : (k : Int) * (p : Int) = (a.length : Int) := by rw [hk, Int.natCast_mul, Int.mul_comm]
  have hmp : m * (p : Int) = (a.length : Int) * g := by
    rw [hm, Int.mul_assoc, Int.mul_comm g, ← Int.mul_assoc, hkp]
  have ha0 : (a.length : Int) ≠ 0 := by omega
  have hg : m * (p : Int) / (a.length : Int) = g := by rw [hmp]; exact Int.mul_ediv_cancel_left _ ha0
  have hfit : Fits a m p := by
    refine ⟨p0, ⟨k, hk⟩, by rw [hmp]; exact Int.mul_emod_right _ _, ?_⟩
    rw [hg]
    have hpa : p ≤ a.length := Nat.le_of_dvd h0 ⟨k, hk⟩
    apply List.ext_getElem
    · rw [List.length_drop, List.length_map, List.length_take]; omega
    · intro i h1 h2
      rw [List.length_drop] at h1
      rw [List.getElem_drop, List.getElem_map, List.getElem_take]
      have x1 : tmR f a m (f.length + (p + i)) = a[p + i]'(by omega) := by
        rw [tm_lt (by omega)]
        unfold gt
        rw [List.getElem?_append_right (by omega), show f.length + (p + i) - f.length = p + i by omega, List.getElem?_eq_getElem (by omega)]
        rfl
      have x2 : tmR f a m (f.length + i) = a[i]'(by omega) := by
        rw [tm_lt (by omega)]
        unfold gt
        rw [List.getElem?_append_right (by omega), show f.length + i - f.length = i by omega, List.getElem?_eq_getElem (by omega)]
        rfl
      rw [← x1, ← x2]
      have y1 := hq.iter (n := f.length + (p + i)) (by omega) M
      have y2 := hq.iter (n := f.length + i) (by omega) M
      have hM1 : M ≤ f.length + i + M * a.length := by
        have : M * 1 ≤ M * a.length := Nat.mul_le_mul_left _ h0
        omega
      have y3 := hp (f.length + i + M * a.length) hM1
      rw [show f.length + i + M * a.length + p = f.length + (p + i) + M * a.length by omega, y1, y2, later1_later1] at y3
      have y4 : later1 (M * m) (tmR f a m (f.length + (p + i))) = later1 (M * m) (later1 g (tmR f a m (f.length + i))) := by
        rw [y3, later1_later1]
        congr 1
        omega
      exact later1_inj y4
  have : t ≤ p := Nat.le_of_not_lt fun c => F.least p c hfit
  omega
/-- what is made, by the times alone -/
structure Canon (s : Nat → Option Int) (t b : Nat) (g : Int) : Prop where
  pos : 0 < t
  qp : Qp s b t g
  tl : ∀ B t' g', 0 < t' → Qp s B t' g' → t ≤ t'
  bl : ∀ B g', Qp s B t g' → b ≤ B
theorem made_canon {f' a' : List (Option Int)} {m' : Int} (M : MadeOf f a m f' a' m') (h0 : 0 < a.length) (L : Lives f a m) :
    ∃ t b, Canon (tmR f a m) t b m' ∧ t ≤ a.length ∧ b ≤ f.length ∧ f' = (List.range b).map (tmR f a m) ∧ a' = (List.range t).map (fun i => tmR f a m (b + i)) := by
  obtain ⟨t, b, F, S, rfl, rfl, rfl⟩ := M
  have ht := F.fits.pos
  have hle := F.le
  have hb := S.le
  have Q : Qp (tmR f a m) b t (m * t / a.length) := fun n hn => tm_step F S h0 hn
  refine ⟨t, b, ⟨ht, Q, fun B t' g' h' q => least_is (b := b) F h0 L h' q, fun B g' q => ?_⟩, hle, hb, ?_, ?_⟩
  · refine Nat.le_of_not_lt fun c => ?_
    have hgg : g' = m * t / a.length := by
      have h1 := q (max B f.length + b) (by omega)
      have h2 := Q (max B f.length + b) (by omega)
      rw [h1] at h2
      exact later1_g (L _ (by omega)) h2
    subst hgg
    rcases S.least with z | z
    · omega
    · refine z ?_
      have l1 : b - 1 + t < (f ++ a).length := by rw [List.length_append]; omega
      have l2 : b - 1 < (f ++ a).length := by rw [List.length_append]; omega
      have h1 := q (b - 1) (by omega)
      rw [List.length_append] at l1 l2
      rw [tm_lt l1, tm_lt l2] at h1
      rw [get_some (by rw [List.length_append]; exact l1), get_some (by rw [List.length_append]; exact l2), h1]
      rfl
  · apply List.ext_getElem
    · rw [List.length_take, List.length_append, List.length_map, List.length_range]; omega
    · intro i h1 h2
      rw [List.length_map, List.length_range] at h2
      rw [List.getElem_take, List.getElem_map, List.getElem_range, tm_lt (by omega), gt_lt (by rw [List.length_append]; omega)]
  · apply List.ext_getElem
    · rw [List.length_take, List.length_drop, List.length_append, List.length_map, List.length_range]; omega
    · intro i h1 h2
      rw [List.length_map, List.length_range] at h2
      rw [List.getElem_take, List.getElem_drop, List.getElem_map, List.getElem_range, tm_lt (by omega), gt_lt (by rw [List.length_append]; omega)]
/-- one row has one least form -/
theorem Canon.uniq {s : Nat → Option Int} {t b t' b' : Nat} {g g' : Int} (C : Canon s t b g) (C' : Canon s t' b' g') (L : ∀ N, ∃ n, N ≤ n ∧ s n ≠ none) : t = t' ∧ b = b' ∧ g = g' := by
  have e : t = t' := Nat.le_antisymm (C.tl _ _ _ C'.pos C'.qp) (C'.tl _ _ _ C.pos C.qp)
  subst e
  obtain ⟨n, hn, z⟩ := L (b + b')
  have h1 := C.qp n (by omega)
  rw [C'.qp n (by omega)] at h1
  exact ⟨rfl, Nat.le_antisymm (C.bl _ _ C'.qp) (C'.bl _ _ C.qp), (later1_g z h1).symm⟩
end
/-- two rows that are the same for a while are the same -/
theorem same_for_ever {s s' : Nat → Option Int} {N q q' W : Nat} {m m' : Int} (h : Qp s N q m) (h' : Qp s' N q' m') (h0 : 0 < q) (h0' : 0 < q') (hW : N + q + q' ≤ W) (hs : ∀ n, n < W → s n = s' n) (n : Nat) : s n = s' n := by
  have k : Qp s N q' m' := h.spread h0 fun n h1 h2 => by
    rw [hs n (by omega), hs (n + q') (by omega)]
    exact h' n h1
  induction n using Nat.strongRecOn with
  | ind n ih =>
    by_cases c : n < W
    · exact hs n c
    · have e : n = (n - q') + q' := by omega
      rw [e, k _ (by omega), h' _ (by omega), ih (n - q') (by omega)]
/-- a row told with longer beginnings and turns -/
theorem wide_times {s : Nat → Option Int} {N q B c : Nat} {m : Int} (h : Qp s N q m) (hB : N ≤ B) (hq : 0 < q) (hc : 0 < c) (n : Nat) :
    tmR ((List.range B).map s) ((List.range (c * q)).map fun i => s (B + i)) (c * m) n = s n := by
  unfold tmR
  rw [List.length_map, List.length_range, List.length_map, List.length_range]
  have hcq : 0 < c * q := Nat.mul_pos hc hq
  by_cases z : n < B
  · rw [if_pos z]
    unfold gt
    rw [List.getElem?_map, List.getElem?_range z]
    rfl
  · rw [if_neg z]
    have hr : (n - B) % (c * q) < c * q := Nat.mod_lt _ hcq
    have e : n = (B + (n - B) % (c * q)) + ((n - B) / (c * q) * c) * q := by
      have := Nat.mod_add_div (n - B) (c * q)
      rw [Nat.mul_comm (c * q), ← Nat.mul_assoc] at this
      omega
    have k := h.iter (n := B + (n - B) % (c * q)) (by omega) ((n - B) / (c * q) * c)
    rw [← e] at k
    rw [k]
    unfold gt
    rw [List.getElem?_map, List.getElem?_range hr, Int.natCast_mul, Int.mul_assoc]
    rfl
/-- the law's own search: a turn seen for a while is one -/
theorem seen_turn {s : Nat → Option Int} {N q : Nat} {m : Int} (h : Qp s N q m) (h0 : 0 < q) {b t W : Nat} {g : Int} (hW : N + q ≤ W) (hb : b ≤ N) (hs : ∀ n, b ≤ n → n < W → s (n + t) = later1 g (s n)) : Qp s b t g := by
  have k : Qp s N t g := h.spread h0 fun n h1 h2 => hs n (by omega) (by omega)
  intro n hn
  by_cases c : n < W
  · exact hs n hn c
  · exact k n (by omega)
end My

namespace My
open PySem PySem.Spec PyProof.Rows L2
local macro_rules | `(tactic| walk_at "side") => `(tactic| first | (dsimp only; omega) | exact ⟨by omega, by omega⟩ | exact Or.inl ⟨by omega, by omega⟩ | exact Or.inr ⟨by omega, by omega⟩ | decide)
local macro_rules | `(tactic| walk_at "sq") => `(tactic| first | assumption | exact SqL.of (by assumption) | exact SqT.of (by assumption) | (refine L2.Same.seq (by assumption) ?_; walk_at "sq") | (refine L2.Same.seqT (by assumption) ?_; walk_at "sq") | exact Or.inl (by walk_at "sq") | exact Or.inr (by walk_at "sq"))
local macro_rules | `(tactic| walk_at "1") => `(tactic| first
  | refine ⟨_, rfl, iteT ?_⟩
  | refine ⟨_, rfl, iteF ?_⟩
  | refine ⟨_, rfl, ?_⟩
  | refine ⟨_, _, rfl, rfl, (by walk_at "side"), ?_⟩
  | refine ⟨_, _, rfl, rfl, ?_⟩
  | refine ⟨_, _, _, _, true, rfl, .ty _, .base (.int _), kit_ty (a := "int") (by decide +kernel), ?_⟩
  | refine ⟨_, _, _, _, false, rfl, .ty _, .base (.int _), kit_ty (a := "int") (by decide +kernel), ?_⟩
  | refine ⟨_, _, rfl, (by walk_at "sq"), ?_⟩
  | refine ⟨_, _, _, _, rfl, rfl, (by walk_at "sq"), (by first | rfl | assumption), ?_⟩
  | refine Or.inl ⟨_, _, _, _, rfl, rfl, (by walk_at "sq"), (by first | rfl | assumption), ?_⟩
  | refine Or.inr (Or.inl ⟨_, _, _, _, rfl, rfl, (by walk_at "sq"), (by first | rfl | assumption), ?_⟩)
  | refine ⟨_, _, rfl, Or.inl ⟨(by walk_at "sq"), ?_⟩⟩
  | refine ⟨rfl, ?_⟩
  | refine iteT ?_
  | refine iteF ?_
  | refine ⟨_, _, _, _, _, rfl, (by assumption), (by assumption), (by assumption), (by assumption), ?_⟩
  | refine Or.inl ⟨_, rfl, ?_⟩
  | refine ⟨_, _, rfl, (by walk_at "side"), ?_⟩
  | refine ⟨_, _, rfl, ?_⟩)
local macro_rules | `(tactic| walk_at "fld") => `(tactic| skip)
local macro_rules | `(tactic| walk_at "s") => `(tactic| repeat walk_at "1")
local macro_rules | `(tactic| walk_at "size") => `(tactic| first | exact Nat.le_of_ble_eq_true rfl | (simp only [List.length_map, List.length_append, List.length_cons, List.length_nil]; omega))
local macro_rules | `(tactic| walk_at "new") => `(tactic| (first | refine ⟨(by walk_at "size"), fun p hp => ?_⟩ | refine fun p hp => ?_); (generalize hq : upd _ p _ = H1); (obtain ⟨s, e⟩ := new_facts hp hq); clear hq)

/-- a told row: its three things, as lists and a number -/
def ToldAt (H : Hp) (p : Addr) (f a : List (Option Int)) (m : Int) : Prop := ∃ pf pa, H p = some (.tup [.ref pf, .ref pa, .int m]) ∧ H pf = some (.lst (f.map ov)) ∧ H pa = some (.lst (a.map ov))
theorem _root_.L2.Same.told {H H' : Hp} {p : Addr} {f a : List (Option Int)} {m : Int} (s : Same H H') (h : ToldAt H p f a m) : ToldAt H' p f a m := by
  obtain ⟨pf, pa, h1, h2, h3⟩ := h
  exact ⟨pf, pa, s _ _ h1, s _ _ h2, s _ _ h3⟩
section
variable {P : Program} {w : World} {K : PySem.W.Frag} {mg : Str → Option Value} {base : Heap} {C D : Addr}
abbrev s_law_time : Stmt := topS 30
theorem sc_law_time : FnScope ["told", "n", "first", "again", "more", "thing"] ["told", "n"] (defScope s_law_time) := ⟨rfl, rfl, rfl, by decide +kernel, rfl, by decide +kernel, by decide +kernel⟩
def spTold : Sp := fun vs H Q _ => ∃ (p : Addr) (f a : List (Option Int)) (m : Int) (n : Nat), vs = [.ref p, .int n] ∧ ToldAt H p f a m ∧ Parts f a m ∧ Q (ov (tmR f a m n)) H
theorem ok_law_time (D : Df K mg "_law_time" s_law_time ["told", "n"]) (T : Txt mg) : Own P w K mg base "_law_time" 1 ["told", "n"] spTold := by
  refine D.own sc_law_time (fun vs H Q E h => ?_) (fun fa cdv A outer s H vs Q E hr h => ?_)
  · obtain ⟨_, _, _, _, _, rfl, _⟩ := h
    rfl
  · obtain ⟨p, f, a, m, n, rfl, ⟨pf, pa, h1, h2, h3⟩, ok, k⟩ := h
    have l0 := List.length_pos_iff.mpr ok.ne
    have l1 := ok.la
    have m0 := ok.m0
    have m1 := ok.m1
    refine ⟨_, (pss_cons (ps_asg (pv 0) (pg_tup (by rfl) (pgs_cons (pg_name (i := 2) sc_law_time.nd rfl (Or.inl rfl)) (pgs_cons (pg_name (i := 3) sc_law_time.nd rfl (Or.inl rfl)) (pgs_cons (pg_name (i := 4) sc_law_time.nd rfl (Or.inl rfl)) pgs_nil)))))
  (pss_cons (ps_if (pt_cmpR op_lt (pv 1) (pe_callB call_len_seq (by rfl) T.len PySem.boot_len (pa_cons (pv 2) pa_nil)) (nomark _))
    (pss_one (ps_ret (pe_ix ix_list (pv 2) (pv 1) (fun _ _ => rfl))))
    pss_nil)
  (pss_cons (ps_set (i := 5) sc_law_time.nd rfl (Or.inl rfl) (pe_ix ix_list (pv 3) (pe_op op_mod (pe_op op_sub (pv 1) (pe_callB call_len_seq (by rfl) T.len PySem.boot_len (pa_cons (pv 2) pa_nil))) (pe_callB call_len_seq (by rfl) T.len PySem.boot_len (pa_cons (pv 3) pa_nil))) (fun _ _ => rfl)))
  (pss_one (ps_ret (pe_ifExp (pt_cmpR op_isN (pv 5) pe_non (nomark _)) pe_non (pe_op op_add (pv 5) (pe_op op_mul (pe_op op_fdiv (pe_op op_sub (pv 1) (pe_callB call_len_seq (by rfl) T.len PySem.boot_len (pa_cons (pv 2) pa_nil))) (pe_callB call_len_seq (by rfl) T.len PySem.boot_len (pa_cons (pv 3) pa_nil))) (pv 4))))))))), ?_⟩
    walk_at "s"
    rw [List.length_map]
    refine ite2 (fun c => ?_) (fun c => ?_)
    · have c' : n < f.length := by
        have := of_decide_eq_true c
        omega
      have h0 : atI (f.map ov) (n : Int) = some (ov (gt f n)) := atI_nat (gt_of c')
      walk_at "s"
      have e : tmR f a m n = gt f n := if_pos c'
      rw [e] at k
      exact k
    · have c' : ¬ n < f.length := fun q => c (decide_eq_true (by omega))
      have en : (n : Int) - (f.length : Int) = ((n - f.length : Nat) : Int) := by omega
      have em : ((n : Int) - (f.length : Int)) % (a.length : Int) = (((n - f.length) % a.length : Nat) : Int) := by rw [en]; rfl
      have ed : ((n : Int) - (f.length : Int)) / (a.length : Int) = (((n - f.length) / a.length : Nat) : Int) := by rw [en]; rfl
      have lt : (n - f.length) % a.length < a.length := Nat.mod_lt _ l0
      have lla : (a.map ov).length = a.length := List.length_map ..
      have llf : (f.map ov).length = f.length := List.length_map ..
      have et : tmR f a m n = later1 (((n - f.length) / a.length : Nat) * m) (gt a ((n - f.length) % a.length)) := if_neg c'
      rw [et] at k
      walk_at "s"
      refine ⟨_, _, _, _, rfl, rfl, SqL.of h3, at_of (by show ((n : Int) - ((f.map ov).length : Int)) % ((a.map ov).length : Int) = _; rw [llf, lla]; exact em) (gt_of lt), ?_⟩
      walk_at "s"
      cases hg : gt a ((n - f.length) % a.length) with
      | none =>
        rw [hg] at k
        walk_at "s"
        exact k
      | some x =>
        rw [hg] at k
        walk_at "s"
        show Q (.int (x + (((n : Int) - ((f.map ov).length : Int)) / ((a.map ov).length : Int)) * m)) H
        rw [llf, lla, ed]
        exact k
abbrev s_law_times : Stmt := topS 31
theorem sc_law_times : FnScope ["told", "many", "n"] ["told", "many"] (defScope s_law_times) := ⟨rfl, rfl, rfl, by decide +kernel, rfl, by decide +kernel, by decide +kernel⟩
def spTimes : Sp := fun vs H Q _ => ∃ (p : Addr) (f a : List (Option Int)) (m : Int) (n : Nat), vs = [.ref p, .int n] ∧ ToldAt H p f a m ∧ Parts f a m ∧ n < 1000 ∧ ∀ H' q, Same H H' → H q = none → H' q = some (.lst (((List.range n).map (tmR f a m)).map ov)) → Q (.ref q) H'
theorem ok_law_times (D : Df K mg "_law_times" s_law_times ["told", "many"]) (T : Txt mg) (o_law_time : Own P w K mg base "_law_time" 1 ["told", "n"] spTold) : Own P w K mg base "_law_times" 2 ["told", "many"] spTimes := by
  refine D.own sc_law_times (fun vs H Q E h => ?_) (fun fa cdv A outer s H vs Q E hr h => ?_)
  · obtain ⟨_, _, _, _, _, rfl, _⟩ := h
    rfl
  · obtain ⟨p, f, a, m, n, rfl, hT, ok, hn, k⟩ := h
    have h1000 : 1000 < sizeLine := small1000 (Nat.le_refl _)
    refine ⟨_, (pss_one (ps_ret (pe_lc (own := [("n", 2)]) (g := gName 2) (tt := tYes) rfl sc_law_times.nd (pi_range1 (by rfl) T.range (pa_cons (pv 1) pa_nil)) (blkOk_by (own := [("n", 2)]) (N := ["told", "many", "n"]) (sc := defScope s_law_times) (by decide +kernel)) (fun _ _ _ _ _ => (pg_name (i := 2) sc_law_times.nd rfl (Or.inl rfl))) (fun _ _ _ _ _ => pts_nil) (fun _ _ _ _ _ => (pe_own o_law_time (hr.mono (by decide)) (pa_cons (pv 0) (pa_cons (pv 2) pa_nil))))))), ?_⟩
    walk_at "s"
    refine ⟨by omega, by omega, fun L nL => lc_range (lo := 0) (n := n) (fun i H' => Same H H' ∧ H' L = some (.lst (((List.range i).map (tmR f a m)).map ov))) ⟨same_upd nL, upd_same⟩ ?_ ?_⟩
    · rintro i H' hi ⟨s1, e1⟩
      walk_at "s"
      refine ⟨p, f, a, m, i, by rw [Int.zero_add]; rfl, s1.told hT, ok, ?_⟩
      have hz : (((List.range i).map (tmR f a m)).map ov).length < sizeLine := by
        rw [List.length_map, List.length_map, List.length_range]
        omega
      refine ⟨_, e1, hz, s1.upd1 nL, ?_⟩
      rw [upd_same, List.range_succ, List.map_append, List.map_append]
      rfl
    · rintro H' ⟨s1, e1⟩
      exact k _ _ s1 nL e1
abbrev s_law_made : Stmt := topS 32
theorem sc_law_made : FnScope ["told"] ["told"] (defScope s_law_made) := ⟨rfl, rfl, rfl, by decide +kernel, rfl, by decide +kernel, by decide +kernel⟩
def spMade (C : Addr) : Sp := fun vs H Q _ => ∃ (p : Addr) (f a : List (Option Int)) (m : Int), vs = [.ref p] ∧ ToldAt H p f a m ∧ OkRow f a m ∧ Parts f a m ∧ ∀ H' q f' a' m', Same H H' → H q = none → RowAt C H' q f' a' m' → MadeOf f a m f' a' m' → Q (.ref q) H'
theorem ok_law_made (F : Df K mg "_law_made" s_law_made ["told"]) (R : RowMk P w K mg base C D) : Own P w K mg base "_law_made" 6 ["told"] (spMade C) := by
  obtain ⟨fR, fdR, FR, mR, MR, bR⟩ := R.ex
  refine F.own sc_law_made (fun vs H Q E h => ?_) (fun fa cdv A outer s H vs Q E hr h => ?_)
  · obtain ⟨_, _, _, _, rfl, _⟩ := h
    rfl
  · obtain ⟨p, f, a, m, rfl, ⟨pf, pa, h1, h2, h3⟩, ok, pt, k⟩ := h
    refine ⟨_, (pss_one (ps_ret (pe_makeS MR FR (hr.mono (by decide)) rfl mR bR .nil (fun σ => passAt takes0 σ) (pa_cons (pe_ix ix_tup (pv 0) pe_int (fun _ _ => rfl)) (pa_cons (pe_ix ix_tup (pv 0) pe_int (fun _ _ => rfl)) (pa_cons (pe_ix ix_tup (pv 0) pe_int (fun _ _ => rfl)) pa_nil)))))), ?_⟩
    walk_at "s"
    intro x dx nx ndx nex
    have sx : Same H (upd (upd H dx (.own x)) x (.ins C dx [])) := fun b o e => by
      rw [upd_ne (ne_of_none e nx), upd_ne (ne_of_none e ndx)]
      exact e
    refine ⟨H, x, dx, _, _, _, rfl, nx, sx, upd_same, Or.inr ⟨pf, pa, f, a, m, rfl, rfl, rfl, Or.inl h2, Or.inl h3, ok.word.2, ok.ne, pt.lf, pt.la, pt.m0, pt.m1, fun H' f' a' m' s1 r1 mo => ⟨rfl, ?_⟩⟩⟩
    exact k _ _ _ _ _ s1 nx r1 mo
end
end My

namespace My
open PySem PySem.Spec PyProof.Rows L2
local macro_rules | `(tactic| walk_at "side") => `(tactic| first | (dsimp only; omega) | exact ⟨by omega, by omega⟩ | exact Or.inl ⟨by omega, by omega⟩ | exact Or.inr ⟨by omega, by omega⟩ | decide)
local macro_rules | `(tactic| walk_at "sq") => `(tactic| first | assumption | exact SqL.of (by assumption) | exact SqT.of (by assumption) | (refine L2.Same.seq (by assumption) ?_; walk_at "sq") | (refine L2.Same.seqT (by assumption) ?_; walk_at "sq") | exact Or.inl (by walk_at "sq") | exact Or.inr (by walk_at "sq"))
local macro_rules | `(tactic| walk_at "1") => `(tactic| first
  | refine ⟨_, rfl, iteT ?_⟩
  | refine ⟨_, rfl, iteF ?_⟩
  | refine ⟨_, rfl, ?_⟩
  | refine ⟨_, _, rfl, rfl, (by walk_at "side"), ?_⟩
  | refine ⟨_, _, rfl, rfl, ?_⟩
  | refine ⟨_, _, _, _, true, rfl, .ty _, .base (.int _), kit_ty (a := "int") (by decide +kernel), ?_⟩
  | refine ⟨_, _, _, _, false, rfl, .ty _, .base (.int _), kit_ty (a := "int") (by decide +kernel), ?_⟩
  | refine ⟨_, _, rfl, (by walk_at "sq"), ?_⟩
  | refine ⟨_, _, _, _, rfl, rfl, (by walk_at "sq"), (by first | rfl | assumption), ?_⟩
  | refine Or.inl ⟨_, _, _, _, rfl, rfl, (by walk_at "sq"), (by first | rfl | assumption), ?_⟩
  | refine Or.inr (Or.inl ⟨_, _, _, _, rfl, rfl, (by walk_at "sq"), (by first | rfl | assumption), ?_⟩)
  | refine ⟨_, _, rfl, Or.inl ⟨(by walk_at "sq"), ?_⟩⟩
  | refine ⟨rfl, ?_⟩
  | refine iteT ?_
  | refine iteF ?_
  | refine ⟨_, _, _, _, _, rfl, (by assumption), (by assumption), (by assumption), (by assumption), ?_⟩
  | refine Or.inl ⟨_, rfl, ?_⟩
  | refine Or.inr ⟨_, rfl, ?_⟩
  | refine ⟨_, _, rfl, (by walk_at "side"), ?_⟩
  | refine ⟨_, _, rfl, ?_⟩)
local macro_rules | `(tactic| walk_at "fld") => `(tactic| skip)
local macro_rules | `(tactic| walk_at "s") => `(tactic| repeat walk_at "1")
local macro_rules | `(tactic| walk_at "size") => `(tactic| first | exact Nat.le_of_ble_eq_true rfl | (simp only [List.length_map, List.length_append, List.length_cons, List.length_nil]; omega))
local macro_rules | `(tactic| walk_at "new") => `(tactic| (first | refine ⟨(by walk_at "size"), fun p hp => ?_⟩ | refine fun p hp => ?_); (generalize hq : upd _ p _ = H1); (obtain ⟨s, e⟩ := new_facts hp hq); clear hq)

section
variable {P : Program} {w : World} {K : PySem.W.Frag} {mg : Str → Option Value} {base : Heap} {C D : Addr}
/-- a row of one thing -/
theorem made_one {x : Option Int} {f' a' : List (Option Int)} {m' : Int} (M : MadeOf [] [x] 0 f' a' m') : f' = [] ∧ a' = [x] ∧ m' = 0 := by
  obtain ⟨t, b, F, S, rfl, rfl, rfl⟩ := M
  have h1 := F.fits.pos
  have h2 := F.le
  have h3 := S.le
  simp only [List.length_cons, List.length_nil] at h2 h3
  have ht : t = 1 := by omega
  have hb : b = 0 := by omega
  subst ht hb
  exact ⟨rfl, rfl, by rw [Int.zero_mul, Int.zero_ediv]⟩
def spOne (C : Addr) (x : Option Int) : Sp := fun vs H Q _ => vs = [] ∧ ∀ H' q, Same H H' → H q = none → RowAt C H' q [] [x] 0 → Q (.ref q) H'
abbrev s_empty : Stmt := topS 22
theorem sc_empty : FnScope [] [] (defScope s_empty) := ⟨rfl, rfl, rfl, by decide +kernel, rfl, by decide +kernel, by decide +kernel⟩
theorem ok_empty (F : Df K mg "empty" s_empty []) (R : RowMk P w K mg base C D) : Own P w K mg base "empty" 6 [] (spOne C none) := by
  obtain ⟨fR, fdR, FR, mR, MR, bR⟩ := R.ex
  refine F.own sc_empty (fun vs H Q E h => ?_) (fun fa cdv A outer s H vs Q E hr h => ?_)
  · obtain ⟨rfl, _⟩ := h
    rfl
  · obtain ⟨rfl, k⟩ := h
    refine ⟨_, (pss_one (ps_ret (pe_makeS MR FR (hr.mono (by decide)) rfl mR bR .nil (fun σ => passAt takes0 σ) (pa_cons (pe_tup pa_nil) (pa_cons (pe_tup (pa_cons pe_non pa_nil)) (pa_cons pe_int pa_nil)))))), ?_⟩
    walk_at "new"
    rename_i p1 n1 H1 s1 e1
    walk_at "s"
    walk_at "new"
    rename_i p2 n2 H2 s2 e2
    walk_at "s"
    intro x dx nx ndx nex
    have sx : Same H2 (upd (upd H2 dx (.own x)) x (.ins C dx [])) := fun b o e => by
      rw [upd_ne (ne_of_none e nx), upd_ne (ne_of_none e ndx)]
      exact e
    have ok : OkRow [] [none] 0 := ⟨rfl, rfl, fun z => (nomatch z), Or.inr ⟨rfl, rfl, Or.inl rfl, rfl⟩⟩
    refine ⟨H2, x, dx, _, _, _, rfl, nx, sx, upd_same, Or.inr ⟨p1, p2, [], [none], 0, rfl, rfl, rfl, Or.inr (s2 _ _ e1), Or.inr e2, ok.word.2, ok.ne, by decide, by decide, by decide, by decide, fun H' f' a' m' s3 r3 mo => ⟨rfl, ?_⟩⟩⟩
    obtain ⟨rfl, rfl, rfl⟩ := made_one mo
    exact k _ _ (s1.trans (s2.trans s3)) (s1.free (s2.free nx)) r3
end
end My

namespace My
open PySem PySem.Spec PyProof.Rows L2
local macro_rules | `(tactic| walk_at "side") => `(tactic| first | (dsimp only; omega) | exact ⟨by omega, by omega⟩ | exact Or.inl ⟨by omega, by omega⟩ | exact Or.inr ⟨by omega, by omega⟩ | decide)
local macro_rules | `(tactic| walk_at "sq") => `(tactic| first | assumption | exact SqL.of (by assumption) | exact SqT.of (by assumption) | (refine L2.Same.seq (by assumption) ?_; walk_at "sq") | (refine L2.Same.seqT (by assumption) ?_; walk_at "sq") | exact Or.inl (by walk_at "sq") | exact Or.inr (by walk_at "sq"))
local macro_rules | `(tactic| walk_at "1") => `(tactic| first
  | refine ⟨_, rfl, iteT ?_⟩
  | refine ⟨_, rfl, iteF ?_⟩
  | refine ⟨_, rfl, ?_⟩
  | refine ⟨_, _, rfl, rfl, (by walk_at "side"), ?_⟩
  | refine ⟨_, _, rfl, rfl, ?_⟩
  | refine ⟨_, _, _, _, true, rfl, .ty _, .base (.int _), kit_ty (a := "int") (by decide +kernel), ?_⟩
  | refine ⟨_, _, _, _, false, rfl, .ty _, .base (.int _), kit_ty (a := "int") (by decide +kernel), ?_⟩
  | refine ⟨_, _, rfl, (by walk_at "sq"), ?_⟩
  | refine ⟨_, _, _, _, rfl, rfl, (by walk_at "sq"), (by first | rfl | assumption), ?_⟩
  | refine Or.inl ⟨_, _, _, _, rfl, rfl, (by walk_at "sq"), (by first | rfl | assumption), ?_⟩
  | refine Or.inr (Or.inl ⟨_, _, _, _, rfl, rfl, (by walk_at "sq"), (by first | rfl | assumption), ?_⟩)
  | refine ⟨_, _, rfl, Or.inl ⟨(by walk_at "sq"), ?_⟩⟩
  | refine ⟨rfl, ?_⟩
  | refine iteT ?_
  | refine iteF ?_
  | refine ⟨_, _, _, _, _, rfl, (by assumption), (by assumption), (by assumption), (by assumption), ?_⟩
  | refine Or.inl ⟨_, rfl, ?_⟩
  | refine Or.inr ⟨_, rfl, ?_⟩
  | refine ⟨_, _, rfl, (by walk_at "side"), ?_⟩
  | refine ⟨_, _, rfl, ?_⟩)
local macro_rules | `(tactic| walk_at "fld") => `(tactic| skip)
local macro_rules | `(tactic| walk_at "s") => `(tactic| repeat walk_at "1")
local macro_rules | `(tactic| walk_at "size") => `(tactic| first | exact Nat.le_of_ble_eq_true rfl | (simp only [List.length_map, List.length_append, List.length_cons, List.length_nil]; omega))
local macro_rules | `(tactic| walk_at "new") => `(tactic| (first | refine ⟨(by walk_at "size"), fun p hp => ?_⟩ | refine fun p hp => ?_); (generalize hq : upd _ p _ = H1); (obtain ⟨s, e⟩ := new_facts hp hq); clear hq)
local macro_rules | `(tactic| walk_at "1") => `(tactic| refine And.intro (by assumption) ?_)

open TL
/-! ### a row's text, read again -/
theorem cs_neg (n : Nat) : wcs (PySem.Str.ofString (toString (Int.negSucc n))) = 45 :: numL (n + 1) := by
  have h : (toString (Int.negSucc n) : String) = "-" ++ toString (((n + 1 : Nat) : Int)) := rfl
  have e : wcs (PySem.Str.ofString (toString (Int.negSucc n))) = ((toString (Int.negSucc n) : String).toList.map Char.toNat) := by
    rw [PySem.Str.ofString_eq_toList]
  have e2 : wcs (PySem.Str.ofString (toString (((n + 1 : Nat) : Int)))) = ((toString (((n + 1 : Nat) : Int)) : String).toList.map Char.toNat) := by
    rw [PySem.Str.ofString_eq_toList]
  rw [e, h, String.toList_append, List.map_append, ← e2]
  show ("-" : String).toList.map Char.toNat ++ tl (Str.ofString (toString (((n + 1 : Nat) : Int)))) = _
  rw [tl_num]
  rfl
theorem cs_nat (n : Nat) : wcs (PySem.Str.ofString (toString ((n : Nat) : Int))) = numL n := tl_num n
theorem dig_all {cs : List Nat} (h : NumText.AllDigits cs) : cs.all dig = true := List.all_eq_true.mpr fun c hc => by
  have := h c hc
  unfold dig
  rw [Bool.and_eq_true, decide_eq_true_eq, decide_eq_true_eq]
  omega
theorem num_numL {n : Nat} (h : n < 10 ^ 12) : numL2 12 (numL n) = true := by
  have hl := numL_len (k := 12) (by decide) h
  have hd := numL_digits n
  cases hc : numL n with
  | nil => exact absurd hc (numL_ne n)
  | cons c r =>
    rw [num12, ← hc]
    rw [hc, List.length_cons] at hl
    refine ⟨by omega, dig_all hd, ?_⟩
    by_cases e : c = 48
    · refine Or.inl ?_
      cases r with
      | nil => rfl
      | cons d r =>
        exfalso
        have hdr : NumText.AllDigits (d :: r) := fun x hx => hd x (by rw [hc]; exact List.mem_cons_of_mem _ hx)
        have hv := val_lt _ hdr
        have hn := numL_val n
        rw [hc, e, NumText.digitsVal_zero] at hn
        rw [hn] at hv
        have := numL_len (k := (d :: r).length) (by rw [List.length_cons]; omega) hv
        rw [hc, List.length_cons] at this
        omega
    · exact Or.inr e
/-- what is asked of numbers, so that their words are at most twelve digits -/
def In12 (t : Option Int) : Prop := ∀ i, t = some i → i.natAbs < 10 ^ 12
theorem word_read {t : Option Int} (h : In12 t) : thingL (wcs (wordO t)) = true ∧ wordV (wordO t) = t := by
  cases t with
  | none => exact ⟨by decide, if_pos rfl⟩
  | some i =>
    have hi := h i rfl
    cases i with
    | ofNat n =>
      have hn : n < 10 ^ 12 := hi
      have hc : wcs (wordO (some (Int.ofNat n))) = numL n := cs_nat n
      have hne : ¬ (numL n).head? = some 45 := fun q => by
        cases hL : numL n with
        | nil => rw [hL] at q; cases q
        | cons c r =>
          rw [hL] at q
          have := numL_digits n c (by rw [hL]; exact List.mem_cons_self ..)
          have := Option.some.inj q
          omega
      refine ⟨?_, ?_⟩
      · rw [hc]
        exact (show thingL (numL n) = numL2 12 (numL n) from if_neg (fun q => hne q.1)).trans (num_numL hn)
      · refine (if_neg (fun q => ?_)).trans (congrArg some ?_)
        · have := eq_m.mp q
          rw [hc] at this
          rw [this] at hne
          exact hne rfl
        · show (intText? (Str.ofString (toString ((n : Nat) : Int)))).getD 0 = (n : Int)
          rw [int_num (Nat.le_trans (numL_len (k := 12) (by decide) hn) (by decide))]
          rfl
    | negSucc n =>
      have hn : n + 1 < 10 ^ 12 := hi
      have hc : wcs (wordO (some (Int.negSucc n))) = 45 :: numL (n + 1) := cs_neg n
      have h0 : (45 :: numL (n + 1)) ≠ [45, 48] := fun q => by
        injection q with _ q
        have := numL_val (n + 1)
        rw [q] at this
        exact absurd this (by
          show ¬ (0 : Nat) = n + 1
          omega)
      have hnn : (45 :: numL (n + 1)) ≠ [45] := fun q => numL_ne (n + 1) (List.cons.inj q).2
      refine ⟨?_, ?_⟩
      · rw [hc]
        refine (show thingL (45 :: numL (n + 1)) = (decide ((45 :: numL (n + 1)) = [45]) || numL2 12 (numL (n + 1))) from if_pos ⟨rfl, h0⟩).trans ?_
        rw [num_numL hn, Bool.or_true]
      · refine (if_neg (fun q => hnn (by rw [← hc]; exact eq_m.mp q))).trans (congrArg some ?_)
        have hl : (wordO (some (Int.negSucc n))).length ≤ 4300 := by
          rw [len_cs, hc, List.length_cons]
          have := numL_len (k := 12) (by decide) hn
          omega
        show (intText? (wordO (some (Int.negSucc n)))).getD 0 = Int.negSucc n
        rw [intText_neg hc (numL_digits _) (numL_ne _) hl, numL_val]
        rfl
/-- a word without spaces, not long, of plain signs -/
structure GoodW (w : Str) : Prop where
  len : w.length ≤ 21
  sp : 32 ∉ wcs w
  asc : ∀ c ∈ wcs w, c < 128
theorem good_word {t : Option Int} (h : In12 t) : GoodW (wordO t) ∧ wordO t ≠ "|" := by
  have key : ∀ cs : List Nat, NumText.AllDigits cs → 32 ∉ cs ∧ (∀ c ∈ cs, c < 128) := fun cs hd => ⟨fun q => by have := hd 32 q; omega, fun c hc => by have := hd c hc; omega⟩
  have hb : wcs ("|" : Str) = [124] := by decide
  cases t with
  | none => exact ⟨⟨by decide, by decide, by decide⟩, by decide⟩
  | some i =>
    have hi := h i rfl
    cases i with
    | ofNat n =>
      have hn : n < 10 ^ 12 := hi
      have hc : wcs (wordO (some (Int.ofNat n))) = numL n := cs_nat n
      obtain ⟨k1, k2⟩ := key _ (numL_digits n)
      refine ⟨⟨?_, by rw [hc]; exact k1, by rw [hc]; exact k2⟩, fun q => ?_⟩
      · rw [len_cs, hc]
        have := numL_len (k := 12) (by decide) hn
        omega
      · rw [q, hb] at hc
        have := numL_digits n 124 (by rw [← hc]; exact List.mem_cons_self ..)
        omega
    | negSucc n =>
      have hn : n + 1 < 10 ^ 12 := hi
      have hc : wcs (wordO (some (Int.negSucc n))) = 45 :: numL (n + 1) := cs_neg n
      obtain ⟨k1, k2⟩ := key _ (numL_digits (n + 1))
      refine ⟨⟨?_, ?_, ?_⟩, fun q => ?_⟩
      · rw [len_cs, hc, List.length_cons]
        have := numL_len (k := 12) (by decide) hn
        omega
      · rw [hc]
        intro q
        rcases List.mem_cons.mp q with q | q
        · omega
        · exact k1 q
      · rw [hc]
        intro c q
        rcases List.mem_cons.mp q with q | q
        · omega
        · exact k2 c q
      · rw [q, hb] at hc
        exact absurd hc (by simp)
theorem split_words {W : List Str} (hne : W ≠ []) (h : ∀ w ∈ W, GoodW w) : Txt.split (Txt.join " " W) " " = W :=
  split_join (y := " ") (s := 32) (S := []) (by decide) (by decide +kernel) hne fun p hp => (h p hp).sp
theorem join_len {W : List Str} (h : ∀ w ∈ W, GoodW w) : (Txt.join " " W).length ≤ W.length * 22 := by
  rw [join_eq]
  refine Nat.le_trans (StrLaws.join_length_le " " W) ?_
  have h1 := sum_le (W.map (·.length)) 21 (fun x hx => by
    obtain ⟨y, hy, rfl⟩ := List.mem_map.mp hx
    exact (h y hy).len)
  rw [List.length_map] at h1
  have h3 : (" " : Str).length = 1 := by decide
  rw [h3]
  omega
/-- what is asked of a row's numbers -/
structure Text12 (f a : List (Option Int)) (m : Int) : Prop where
  tm : ∀ t ∈ f ++ a, In12 t
  m0 : 0 ≤ m
  m1 : m < 10 ^ 12
  lf : f.length < 100
  la : a.length < 100
  ne : a ≠ []
section
variable {f a : List (Option Int)} {m : Int}
theorem Text12.more (S : Text12 f a m) : numL2 12 (wcs (toString m : String)) = true ∧ wordI (toString m : String) = m ∧ GoodW (toString m : String) ∧ ((toString m : String) : Str) ≠ "|" := by
  obtain ⟨n, rfl⟩ := Int.eq_ofNat_of_zero_le S.m0
  have hn : n < 10 ^ 12 := by have := S.m1; omega
  have hg := good_word (t := some (n : Int)) (fun i e => by
    obtain rfl := Option.some.inj e
    exact hn)
  refine ⟨?_, ?_, hg.1, hg.2⟩
  · rw [cs_nat]
    exact num_numL hn
  · show (intText? (Str.ofString (toString ((n : Nat) : Int)))).getD 0 = (n : Int)
    rw [int_num (Nat.le_trans (numL_len (k := 12) (by decide) hn) (by decide))]
    rfl
theorem Text12.good (S : Text12 f a m) : ∀ w ∈ rowWords f a m, GoodW w := by
  intro w hw
  unfold rowWords at hw
  rcases List.mem_append.mp hw with q | q
  · obtain ⟨t, ht, rfl⟩ := List.mem_map.mp q
    exact (good_word (S.tm t (List.mem_append_left _ ht))).1
  · rcases List.mem_cons.mp q with rfl | q
    · exact ⟨by decide, by decide, by decide⟩
    · rcases List.mem_append.mp q with q | q
      · obtain ⟨t, ht, rfl⟩ := List.mem_map.mp q
        exact (good_word (S.tm t (List.mem_append_right _ ht))).1
      · rcases List.mem_cons.mp q with rfl | q
        · exact ⟨by decide, by decide, by decide⟩
        · rw [List.mem_singleton.mp q]
          exact S.more.2.2.1
theorem rowWords_length : (rowWords f a m).length = f.length + a.length + 3 := by
  unfold rowWords
  simp only [List.length_append, List.length_map, List.length_cons, List.length_nil]
  omega
theorem find_bar : ∀ (L R : List Str), (∀ w ∈ L, w ≠ "|") → barW (L ++ ("|" : Str) :: R) = L.length
  | [], R, _ => by
    show List.findIdx _ (("|" : Str) :: R) = 0
    rw [List.findIdx_cons]
    rfl
  | x :: L, R, h => by
    show List.findIdx _ (x :: (L ++ ("|" : Str) :: R)) = L.length + 1
    rw [List.findIdx_cons, decide_eq_false (h x (List.mem_cons_self ..))]
    have := find_bar L R (fun w hw => h w (List.mem_cons_of_mem _ hw))
    unfold barW at this
    rw [this]
    rfl
theorem Text12.read (S : Text12 f a m) : FormW (rowWords f a m) ∧ firstW (rowWords f a m) = f ∧ againW (rowWords f a m) = a ∧ moreW (rowWords f a m) = m := by
  have hF : ∀ w ∈ f.map wordO, w ≠ "|" := fun w hw => by
    obtain ⟨t, ht, rfl⟩ := List.mem_map.mp hw
    exact (good_word (S.tm t (List.mem_append_left _ ht))).2
  have hA : ∀ w ∈ a.map wordO, w ≠ "|" := fun w hw => by
    obtain ⟨t, ht, rfl⟩ := List.mem_map.mp hw
    exact (good_word (S.tm t (List.mem_append_right _ ht))).2
  obtain ⟨hm1, hm2, _, hm4⟩ := S.more
  have hlen := rowWords_length (f := f) (a := a) (m := m)
  have hla : 1 ≤ a.length := List.length_pos_iff.mpr S.ne
  have hbar : barW (rowWords f a m) = f.length := by
    unfold rowWords
    rw [find_bar _ _ hF, List.length_map]
  have hcount : ((rowWords f a m).countP fun y : Str => decide (y = "|")) = 1 := by
    unfold rowWords
    have z : ∀ L : List Str, (∀ w ∈ L, w ≠ "|") → (L.countP fun y : Str => decide (y = "|")) = 0 := fun L h => List.countP_eq_zero.mpr fun w hw => by
      rw [decide_eq_false (h w hw)]
      decide
    rw [List.countP_append, z _ hF, List.countP_cons, List.countP_append, z _ hA, z _ (fun w hw => by
      rcases List.mem_cons.mp hw with rfl | q
      · decide
      · rw [List.mem_singleton.mp q]
        exact hm4)]
    rfl
  have hdrop : (rowWords f a m).drop (f.length + 1) = a.map wordO ++ [("+" : Str), (toString m : String)] := by
    unfold rowWords
    rw [show f.map wordO ++ (("|" : Str) :: (a.map wordO ++ [("+" : Str), (toString m : String)])) = (f.map wordO ++ [("|" : Str)]) ++ (a.map wordO ++ [("+" : Str), (toString m : String)]) by simp]
    exact List.drop_left' (by simp)
  have htake : (rowWords f a m).take f.length = f.map wordO := by
    unfold rowWords
    exact List.take_left' (List.length_map ..)
  have htold : toldW (rowWords f a m) = (f ++ a).map wordO := by
    unfold toldW
    rw [hbar, htake, hdrop, hlen, List.map_append]
    congr 1
    exact List.take_left' (by rw [List.length_map]; omega)
  have hback : ∀ k, (rowWords f a m)[f.length + 1 + k]? = (a.map wordO ++ [("+" : Str), (toString m : String)])[k]? := fun k => by
    rw [← hdrop, List.getElem?_drop]
  have hlast : lastW (rowWords f a m) = (toString m : String) := by
    unfold lastW
    rw [hlen, show f.length + a.length + 3 - 1 = f.length + 1 + (a.length + 1) by omega, hback, List.getElem?_append_right (by rw [List.length_map]; omega), List.length_map, show a.length + 1 - a.length = 1 by omega]
    rfl
  have hplus : (rowWords f a m)[(rowWords f a m).length - 2]? = some ("+" : Str) := by
    rw [hlen, show f.length + a.length + 3 - 2 = f.length + 1 + a.length by omega, hback, List.getElem?_append_right (by rw [List.length_map]; omega), List.length_map, show a.length - a.length = 0 by omega]
    rfl
  have hthings : thingsW (rowWords f a m) = f ++ a := by
    unfold thingsW
    rw [htold, List.map_map]
    refine Eq.trans (List.map_congr_left fun t ht => ?_) (List.map_id _)
    exact (word_read (S.tm t ht)).2
  refine ⟨⟨hcount, by omega, hplus, by rw [hbar]; omega, by rw [hlast]; exact hm1, ?_⟩, ?_, ?_, ?_⟩
  · rw [htold, List.all_map]
    exact List.all_eq_true.mpr fun t ht => (word_read (S.tm t ht)).1
  · unfold firstW
    rw [hthings, hbar]
    exact List.take_left' rfl
  · unfold againW
    rw [hthings, hbar]
    exact List.drop_left' rfl
  · unfold moreW
    rw [hlast]
    exact hm2
/-- the text of a row that is right is due to give its arguments -/
theorem Text12.due (S : Text12 f a m) (O : OkRow f a m) : dueW (Txt.split (rowText f a m) " ") = .args f a m := by
  have hs : Txt.split (rowText f a m) " " = rowWords f a m := split_words (fun e => by
    have := rowWords_length (f := f) (a := a) (m := m)
    rw [e] at this
    simp at this) S.good
  obtain ⟨h1, h2, h3, h4⟩ := S.read
  rw [hs]
  have hw : wrongW (rowWords f a m) = none := by
    unfold wrongW
    rw [h2, h3, h4]
    exact O.word.2
  unfold dueW
  rw [if_pos h1, if_pos hw, h2, h3, h4]
theorem Text12.line (S : Text12 f a m) : (rowText f a m).length ≤ 10000 ∧ Txt.split (rowText f a m) " " = rowWords f a m := by
  have hs : Txt.split (rowText f a m) " " = rowWords f a m := split_words (fun e => by
    have := rowWords_length (f := f) (a := a) (m := m)
    rw [e] at this
    simp at this) S.good
  have := join_len S.good
  rw [rowWords_length] at this
  have := S.lf
  have := S.la
  exact ⟨by unfold rowText; omega, hs⟩
end
end My

namespace My
open PySem PySem.Spec PyProof.Rows L2
local macro_rules | `(tactic| walk_at "side") => `(tactic| first | (dsimp only; omega) | exact ⟨by omega, by omega⟩ | exact Or.inl ⟨by omega, by omega⟩ | exact Or.inr ⟨by omega, by omega⟩ | decide)
local macro_rules | `(tactic| walk_at "sq") => `(tactic| first | assumption | exact SqL.of (by assumption) | exact SqT.of (by assumption) | (refine L2.Same.seq (by assumption) ?_; walk_at "sq") | (refine L2.Same.seqT (by assumption) ?_; walk_at "sq") | exact Or.inl (by walk_at "sq") | exact Or.inr (by walk_at "sq"))
local macro_rules | `(tactic| walk_at "1") => `(tactic| first
  | refine ⟨_, rfl, iteT ?_⟩
  | refine ⟨_, rfl, iteF ?_⟩
  | refine ⟨_, rfl, ?_⟩
  | refine ⟨_, _, rfl, rfl, (by walk_at "side"), ?_⟩
  | refine ⟨_, _, rfl, rfl, ?_⟩
  | refine ⟨_, _, _, _, true, rfl, .ty _, .base (.int _), kit_ty (a := "int") (by decide +kernel), ?_⟩
  | refine ⟨_, _, _, _, false, rfl, .ty _, .base (.int _), kit_ty (a := "int") (by decide +kernel), ?_⟩
  | refine ⟨_, _, rfl, (by walk_at "sq"), ?_⟩
  | refine ⟨_, _, _, _, rfl, rfl, (by walk_at "sq"), (by first | rfl | assumption), ?_⟩
  | refine Or.inl ⟨_, _, _, _, rfl, rfl, (by walk_at "sq"), (by first | rfl | assumption), ?_⟩
  | refine Or.inr (Or.inl ⟨_, _, _, _, rfl, rfl, (by walk_at "sq"), (by first | rfl | assumption), ?_⟩)
  | refine ⟨_, _, rfl, Or.inl ⟨(by walk_at "sq"), ?_⟩⟩
  | refine ⟨rfl, ?_⟩
  | refine iteT ?_
  | refine iteF ?_
  | refine ⟨_, _, _, _, _, rfl, (by assumption), (by assumption), (by assumption), (by assumption), ?_⟩
  | refine Or.inl ⟨_, rfl, ?_⟩
  | refine Or.inr ⟨_, rfl, ?_⟩
  | refine ⟨_, _, rfl, (by walk_at "side"), ?_⟩
  | refine ⟨_, _, rfl, ?_⟩)
local macro_rules | `(tactic| walk_at "fld") => `(tactic| skip)
local macro_rules | `(tactic| walk_at "s") => `(tactic| repeat walk_at "1")
local macro_rules | `(tactic| walk_at "size") => `(tactic| first | exact Nat.le_of_ble_eq_true rfl | (simp only [List.length_map, List.length_append, List.length_cons, List.length_nil]; omega))
local macro_rules | `(tactic| walk_at "new") => `(tactic| (first | refine ⟨(by walk_at "size"), fun p hp => ?_⟩ | refine fun p hp => ?_); (generalize hq : upd _ p _ = H1); (obtain ⟨s, e⟩ := new_facts hp hq); clear hq)
local macro_rules | `(tactic| walk_at "1") => `(tactic| refine And.intro (by assumption) ?_)

open TL
theorem seq_pt {K : PySem.W.Frag} {ta : TE} {a : Addr} {xs : List V} {σ : L2.St} {H : Hp} {R : It → Hp → Prop} (h : SqS K H a xs) (hta : ∀ Q : VK, Q (.ref a) H → ta σ H Q) (hR : ∀ J, SeqIt H xs J → R J H) : iList K ta σ H R ∨ iTup K ta σ H R :=
  h.elim (fun h => Or.inl (hta _ ⟨a, rfl, ⟨_, h⟩, hR _ (seqIt_l h)⟩)) fun h => Or.inr (hta _ ⟨a, rfl, ⟨_, h⟩, hR _ (seqIt_t h)⟩)
/-- a told row, in lists or tuples -/
def ToldS (H : Hp) (p : Addr) (f a : List (Option Int)) (m : Int) : Prop := ∃ pf pa, H p = some (.tup [.ref pf, .ref pa, .int m]) ∧ SqH H pf (f.map ov) ∧ SqH H pa (a.map ov)
section
variable {P : Program} {w : World} {K : PySem.W.Frag} {mg : Str → Option Value} {base : Heap} {C : Addr}
abbrev s_law_text : Stmt := topS 33
theorem sc_law_text : FnScope ["told", "words", "thing"] ["told"] (defScope s_law_text) := ⟨rfl, rfl, rfl, by decide +kernel, rfl, by decide +kernel, by decide +kernel⟩
def spText : Sp := fun vs H Q _ => ∃ (p : Addr) (f a : List (Option Int)) (m : Int), vs = [.ref p] ∧ ToldS H p f a m ∧ Small f a m ∧ ∀ H', Same H H' → Q (.str (rowText f a m)) H'
set_option maxHeartbeats 8000000 in
theorem ok_law_text (D : Df K mg "_law_text" s_law_text ["told"]) (T : Txt mg) : Own P w K mg base "_law_text" 1 ["told"] spText := by
  refine D.own sc_law_text (fun vs H Q E h => ?_) (fun fa cdv A outer s H vs Q E hr h => ?_)
  · obtain ⟨_, _, _, _, rfl, _⟩ := h
    rfl
  · obtain ⟨p, f, a, m, rfl, ⟨pf, pa, h1, h2, h3⟩, S, k⟩ := h
    have h1000 : 1000 < sizeLine := small1000 (Nat.le_refl _)
    have lf := S.lf
    have la := S.la
    refine ⟨_, (C8.pss_cut (ps_set (i := 1) sc_law_text.nd rfl (Or.inl rfl) (pe_op op_cat (pe_lc (own := [("thing", 2)]) (g := gName 2) (tt := tYes) rfl sc_law_text.nd (pi_alt (pi_list (pe_ix ix_tup (pv 0) pe_int (fun _ _ => rfl))) (pi_tup (pe_ix ix_tup (pv 0) pe_int (fun _ _ => rfl)))) (blkOk_by (own := [("thing", 2)]) (N := ["told", "words", "thing"]) (sc := defScope s_law_text) (by decide +kernel)) (fun _ _ _ _ _ => (pg_name (i := 2) sc_law_text.nd rfl (Or.inl rfl))) (fun _ _ _ _ _ => pts_nil) (fun _ _ _ _ _ => (pe_ifExp (pt_cmpR op_isN (pv 2) pe_non (nomark _)) pe_str (pe_callTy call_str_int (by rfl) T.str (by decide +kernel) (pa_cons (pv 2) pa_nil))))) (pe_lst (pa_cons pe_str pa_nil))))
  (C8.pss_cut (ps_set (i := 1) sc_law_text.nd rfl (Or.inl rfl) (pe_op op_cat (pv 1) (pe_lc (own := [("thing", 2)]) (g := gName 2) (tt := tYes) rfl sc_law_text.nd (pi_alt (pi_list (pe_ix ix_tup (pv 0) pe_int (fun _ _ => rfl))) (pi_tup (pe_ix ix_tup (pv 0) pe_int (fun _ _ => rfl)))) (blkOk_by (own := [("thing", 2)]) (N := ["told", "words", "thing"]) (sc := defScope s_law_text) (by decide +kernel)) (fun _ _ _ _ _ => (pg_name (i := 2) sc_law_text.nd rfl (Or.inl rfl))) (fun _ _ _ _ _ => pts_nil) (fun _ _ _ _ _ => (pe_ifExp (pt_cmpR op_isN (pv 2) pe_non (nomark _)) pe_str (pe_callTy call_str_int (by rfl) T.str (by decide +kernel) (pa_cons (pv 2) pa_nil)))))))
  (pss_one (ps_ret (pe_m1 PySem.F.slot_str_join PySem.F.type_str_join mt_join pe_str (pe_op op_cat (pv 1) (pe_lst (pa_cons pe_str (pa_cons (pe_callTy call_str_int (by rfl) T.str (by decide +kernel) (pa_cons (pe_ix ix_tup (pv 0) pe_int (fun _ _ => rfl)) pa_nil)) pa_nil))))))))), ?_⟩
    have step : ∀ (g : List (Option Int)) (L : Addr) (Hb : Hp), g.length < 500 → Hb L = none → (∀ x ∈ g, ∀ i, x = some i → i.natAbs < 10 ^ 20) → ∀ (i : Nat) (x : V) (H'' : Hp), (g.map ov)[i]? = some x → Same Hb H'' → H'' L = some (.lst (((g.take i).map wordO).map V.str)) → ∃ t : Option Int, x = ov t ∧ (∀ i, t = some i → i.natAbs.log2 < 1920) ∧ (((g.take i).map wordO).map V.str).length < sizeLine ∧
        Same Hb (upd H'' L (.lst ((((g.take i).map wordO).map V.str) ++ [V.str (wordO t)]))) ∧ (upd H'' L (.lst ((((g.take i).map wordO).map V.str) ++ [V.str (wordO t)]))) L = some (.lst (((g.take (i + 1)).map wordO).map V.str)) := by
      intro g L Hb lg nL hg i x H'' hi s1 e1
      obtain ⟨t, ht, rfl⟩ := get_map hi
      refine ⟨t, rfl, fun j hj => log20 (hg t (List.mem_of_getElem? ht) j hj), ?_, s1.upd1 nL, ?_⟩
      · rw [List.length_map, List.length_map, List.length_take]
        omega
      · rw [upd_same, take_succ_map wordO ht, List.map_append]
        rfl
    refine ⟨fun σ' H' => ∃ q, σ' = [some (.ref p), some (.ref q), none] ∧ Same H H' ∧ H' q = some (.lst ((f.map wordO ++ [("|" : Str)]).map V.str)), ?_, ?_⟩
    · refine seq_pt (h2.sqs (K := K)) (fun Q q => ⟨_, rfl, p, _, _, _, rfl, rfl, SqT.of h1, rfl, q⟩) fun J hJ => ?_
      refine fun L nL => lc_seq hJ (fun i H'' => Same H H'' ∧ H'' L = some (.lst (((f.take i).map wordO).map V.str))) ⟨same_upd nL, upd_same⟩ (fun i H'' q => q.1) ?_ ?_
      · rintro i x H'' hi ⟨s1, e1⟩
        obtain ⟨t, rfl, hz, hl, fin⟩ := step f L H lf nL (fun x hx => S.tm x (List.mem_append_left _ hx)) i x H'' hi s1 e1
        walk_at "s"
        rw [ov_non]
        cases t with
        | none =>
          walk_at "s"
          exact ⟨_, e1, hl, fin⟩
        | some j =>
          walk_at "s"
          exact ⟨hz j rfl, _, e1, hl, fin⟩
      · rintro H1 ⟨s1, e1⟩
        rw [show (f.map ov).length = f.length by simp, List.take_length] at e1
        walk_at "s"
        walk_at "new"
        rename_i q2 n2 H2 s2 e2
        have e12 := s2 _ _ e1
        clear e1
        refine ⟨L, q2, _, _, rfl, rfl, e12, e2, by simp only [List.length_map, List.length_cons, List.length_nil]; omega, fun q3 n3 => ?_⟩
        generalize hq : upd _ q3 _ = H3
        obtain ⟨s3, e3⟩ := new_facts n3 hq
        clear hq
        refine ⟨q3, rfl, s1.trans (s2.trans s3), ?_⟩
        rw [e3, List.map_append]
        rfl
    · rintro σ' H1 ⟨q1, rfl, s1, e1⟩
      have h11 := s1 _ _ h1
      have h31 := s1.sqh h3
      refine ⟨fun σ' H' => ∃ q, σ' = [some (.ref p), some (.ref q), none] ∧ Same H1 H' ∧ H' q = some (.lst ((f.map wordO ++ [("|" : Str)] ++ a.map wordO).map V.str)), ?_, ?_⟩
      · refine ⟨_, rfl, ?_⟩
        refine seq_pt (h31.sqs (K := K)) (fun Q q => ⟨_, rfl, p, _, _, _, rfl, rfl, SqT.of h11, rfl, q⟩) fun J hJ => ?_
        refine fun L nL => lc_seq hJ (fun i H'' => Same H1 H'' ∧ H'' L = some (.lst (((a.take i).map wordO).map V.str))) ⟨same_upd nL, upd_same⟩ (fun i H'' q => q.1) ?_ ?_
        · rintro i x H'' hi ⟨s2, e2⟩
          obtain ⟨t, rfl, hz, hl, fin⟩ := step a L H1 la nL (fun x hx => S.tm x (List.mem_append_right _ hx)) i x H'' hi s2 e2
          walk_at "s"
          rw [ov_non]
          cases t with
          | none =>
            walk_at "s"
            exact ⟨_, e2, hl, fin⟩
          | some j =>
            walk_at "s"
            exact ⟨hz j rfl, _, e2, hl, fin⟩
        · rintro H2 ⟨s2, e2⟩
          rw [show (a.map ov).length = a.length by simp, List.take_length] at e2
          have e12 := s2 _ _ e1
          refine ⟨q1, L, _, _, rfl, rfl, e12, e2, by simp only [List.length_map, List.length_append, List.length_cons, List.length_nil]; omega, fun q3 n3 => ?_⟩
          generalize hq : upd _ q3 _ = H3
          obtain ⟨s3, e3⟩ := new_facts n3 hq
          clear hq
          refine ⟨q3, rfl, s2.trans s3, ?_⟩
          rw [e3, ← List.map_append]
      · rintro σ' H2 ⟨q2, rfl, s2, e2⟩
        have h12 := s2 _ _ h11
        refine ⟨⟨_, rfl⟩, ?_⟩
        walk_at "s"
        refine ⟨log20 S.m0, ?_⟩
        walk_at "new"
        rename_i q3 n3 H3 s3 e3
        have e23 := s3 _ _ e2
        clear e2
        refine ⟨q2, q3, _, _, rfl, rfl, e23, e3, by simp only [List.length_map, List.length_append, List.length_cons, List.length_nil]; omega, fun q4 n4 => ?_⟩
        generalize hq : upd _ q4 _ = H4
        obtain ⟨s4, e4⟩ := new_facts n4 hq
        clear hq
        refine ⟨_, _, rowWords f a m, rfl, rfl, Or.inl (SqL.of ?_), rowWords_size S, k _ (s1.trans (s2.trans (s3.trans s4)))⟩
        rw [e4]
        unfold rowWords
        simp only [List.map_append, List.map_cons, List.map_nil, List.nil_append, List.cons_append, List.append_assoc]
end
end My

namespace My
open PySem PySem.Spec PyProof.Rows L2
local macro_rules | `(tactic| walk_at "side") => `(tactic| first | (dsimp only; omega) | exact ⟨by omega, by omega⟩ | exact Or.inl ⟨by omega, by omega⟩ | exact Or.inr ⟨by omega, by omega⟩ | decide)
local macro_rules | `(tactic| walk_at "sq") => `(tactic| first | assumption | exact SqL.of (by assumption) | exact SqT.of (by assumption) | (refine L2.Same.seq (by assumption) ?_; walk_at "sq") | (refine L2.Same.seqT (by assumption) ?_; walk_at "sq") | exact Or.inl (by walk_at "sq") | exact Or.inr (by walk_at "sq"))
local macro_rules | `(tactic| walk_at "1") => `(tactic| first
  | refine ⟨_, rfl, iteT ?_⟩
  | refine ⟨_, rfl, iteF ?_⟩
  | refine ⟨_, rfl, ?_⟩
  | refine ⟨_, _, rfl, rfl, (by walk_at "side"), ?_⟩
  | refine ⟨_, _, rfl, rfl, ?_⟩
  | refine ⟨_, _, _, _, true, rfl, .ty _, .base (.int _), kit_ty (a := "int") (by decide +kernel), ?_⟩
  | refine ⟨_, _, _, _, false, rfl, .ty _, .base (.int _), kit_ty (a := "int") (by decide +kernel), ?_⟩
  | refine ⟨_, _, rfl, (by walk_at "sq"), ?_⟩
  | refine ⟨_, _, _, _, rfl, rfl, (by walk_at "sq"), (by first | rfl | assumption), ?_⟩
  | refine Or.inl ⟨_, _, _, _, rfl, rfl, (by walk_at "sq"), (by first | rfl | assumption), ?_⟩
  | refine Or.inr (Or.inl ⟨_, _, _, _, rfl, rfl, (by walk_at "sq"), (by first | rfl | assumption), ?_⟩)
  | refine ⟨_, _, rfl, Or.inl ⟨(by walk_at "sq"), ?_⟩⟩
  | refine ⟨rfl, ?_⟩
  | refine iteT ?_
  | refine iteF ?_
  | refine ⟨_, _, _, _, _, rfl, (by assumption), (by assumption), (by assumption), (by assumption), ?_⟩
  | refine Or.inl ⟨_, rfl, ?_⟩
  | refine Or.inr ⟨_, rfl, ?_⟩
  | refine ⟨_, _, rfl, (by walk_at "side"), ?_⟩
  | refine ⟨_, _, rfl, ?_⟩)
local macro_rules | `(tactic| walk_at "fld") => `(tactic| skip)
local macro_rules | `(tactic| walk_at "s") => `(tactic| repeat walk_at "1")
local macro_rules | `(tactic| walk_at "size") => `(tactic| first | exact Nat.le_of_ble_eq_true rfl | (simp only [List.length_map, List.length_append, List.length_cons, List.length_nil]; omega))
local macro_rules | `(tactic| walk_at "new") => `(tactic| (first | refine ⟨(by walk_at "size"), fun p hp => ?_⟩ | refine fun p hp => ?_); (generalize hq : upd _ p _ = H1); (obtain ⟨s, e⟩ := new_facts hp hq); clear hq)
local macro_rules | `(tactic| walk_at "1") => `(tactic| refine And.intro (by assumption) ?_)

open TL
theorem RowAt.bx {C b p : Addr} {H H' : Hp} {f a : List (Option Int)} {m : Int} (h : RowAt C H p f a m) (hb : BoxAt H b) (s : Bx b H H') : RowAt C H' p f a m := by
  obtain ⟨dx, pf, pa, h1, h2, h3⟩ := h
  obtain ⟨x, y, z, x0, e⟩ := hb
  have n1 : p ≠ b := fun q => by rw [q, e] at h1; cases h1
  have n2 : pf ≠ b := fun q => by rw [q, e] at h2; cases h2
  have n3 : pa ≠ b := fun q => by rw [q, e] at h3; cases h3
  exact ⟨dx, pf, pa, s _ _ n1 h1, s _ _ n2 h2, s _ _ n3 h3⟩
/-- a stronger reading -/
theorem pss_pre {X : Cx} {ss : List Stmt} {t u : TS} (h : PSs X ss t) (i : ∀ D σ H, u D σ H → t D σ H) : PSs X ss u := ⟨fun pins s σ H D I q => h.run pins s σ H D I (i D σ H q)⟩
theorem ps_pre {X : Cx} {st : Stmt} {t u : TS} (h : PS X st t) (i : ∀ D σ H, u D σ H → t D σ H) : PS X st u := ⟨fun pins s σ H D I q => h.run pins s σ H D I (i D σ H q)⟩
def forBody (s : Stmt) : List Stmt := match s with
  | .For _ _ b _ _ => b
  | _ => []
def nth (l : List Stmt) (i : Nat) : Stmt := l.getD i (.Pass ⟨0, 0, 0, 0⟩)
/-- a turn of one, seen from far on, is one from where the other comes again -/
theorem Qp.down {s : Nat → Option Int} {N q B t : Nat} {m g : Int} (h : Qp s N q m) (h0 : 0 < q) (h' : Qp s B t g) : Qp s N t g := by
  intro n hn
  have y1 := h.iter (n := n) hn B
  have y2 := h.iter (n := n + t) (by omega) B
  have hB : B ≤ n + B * q := by
    have : B * 1 ≤ B * q := Nat.mul_le_mul_left _ h0
    omega
  have y3 := h' (n + B * q) hB
  rw [show n + B * q + t = n + t + B * q by omega, y2, y1, later1_later1] at y3
  have y4 : later1 (B * m) (s (n + t)) = later1 (B * m) (later1 g (s n)) := by
    rw [y3, later1_later1]
    congr 1
    omega
  exact later1_inj y4
/-- a told row in another form: the same times -/
structure Same2 (f a : List (Option Int)) (m : Int) (wf wa : List (Option Int)) (mw : Int) : Prop where
  ok : OkRow wf wa mw
  pt : Parts wf wa mw
  eq : ∀ n, tmR wf wa mw n = tmR f a m n
  le : f.length ≤ wf.length
theorem Same2.refl {f a : List (Option Int)} {m : Int} (G : ShapeG f a m) : Same2 f a m f a m := ⟨G.ok, G.parts, fun _ => rfl, Nat.le_refl _⟩
/-- the made row of a told one -/
structure MadeBy (f a : List (Option Int)) (m : Int) (f' a' : List (Option Int)) (m' : Int) (t bb : Nat) : Prop where
  cn : Canon (tmR f a m) t bb m'
  ta : t ≤ a.length
  bf : bb ≤ f.length
  ef : f' = (List.range bb).map (tmR f a m)
  ea : a' = (List.range t).map (fun i => tmR f a m (bb + i))
theorem made_by {f a wf wa f' a' : List (Option Int)} {m mw m' : Int} (G : ShapeG f a m) (W : Same2 f a m wf wa mw) (M : MadeOf wf wa mw f' a' m') : ∃ t bb, MadeBy f a m f' a' m' t bb := by
  have hne := G.ne
  have e : tmR wf wa mw = tmR f a m := funext W.eq
  obtain ⟨t, bb, C, h1, h2, h3, h4⟩ := made_canon M (List.length_pos_iff.mpr W.pt.ne) (fun n hn => by
    rw [W.eq]
    obtain ⟨x, hx⟩ := G.live n (Nat.le_trans W.le hn)
    rw [hx]
    exact fun z => nomatch z)
  rw [e] at C h3 h4
  have Qs := tm_qp (f := f) (m := m) hne
  exact ⟨t, bb, C, C.tl _ _ _ hne Qs, C.bl _ _ (Qs.down hne C.qp), h3, h4⟩
theorem MadeBy.uniq {f a f1 a1 f2 a2 : List (Option Int)} {m m1 m2 : Int} {t1 b1 t2 b2 : Nat} (G : ShapeG f a m) (M : MadeBy f a m f1 a1 m1 t1 b1) (M' : MadeBy f a m f2 a2 m2 t2 b2) : f1 = f2 ∧ a1 = a2 ∧ m1 = m2 := by
  obtain ⟨rfl, rfl, e⟩ := M.cn.uniq M'.cn (fun N => ⟨f.length + N, by omega, by
    obtain ⟨x, hx⟩ := G.live (f.length + N) (by omega)
    rw [hx]
    exact fun z => nomatch z⟩)
  rw [M.ef, M.ea, M'.ef, M'.ea]
  exact ⟨rfl, rfl, e⟩
/-- the made row's times, lengths, sizes -/
theorem MadeBy.lens {f a f1 a1 : List (Option Int)} {m m1 : Int} {t bb : Nat} (G : ShapeG f a m) (M : MadeBy f a m f1 a1 m1 t bb) : f1.length = bb ∧ a1.length = t ∧ bb ≤ 20 ∧ t ≤ 12 ∧ 0 < t := by
  have l := G.lens
  refine ⟨by rw [M.ef, List.length_map, List.length_range], by rw [M.ea, List.length_map, List.length_range], by have := M.bf; omega, by have := M.ta; omega, M.cn.pos⟩
theorem MadeBy.grow {f a f1 a1 : List (Option Int)} {m m1 : Int} {t bb : Nat} (G : ShapeG f a m) (M : MadeBy f a m f1 a1 m1 t bb) : 0 ≤ m1 ∧ m1 ≤ 200000 := by
  have l := M.lens G
  have lg := G.lens
  obtain ⟨x, hx⟩ := G.live (f.length + bb) (by omega)
  have q := M.cn.qp (f.length + bb) (by omega)
  have mo := mono_all G.mono (i := f.length + bb) (j := f.length + bb + t) (by omega)
  have b1 := G.bound (n := f.length + bb) (by omega) hx
  rw [hx] at q
  have q' : tmR f a m (f.length + bb + t) = some (x + m1) := q
  have b2 := G.bound (n := f.length + bb + t) (by omega) q'
  rw [hx, q'] at mo
  have mo' : x ≤ x + m1 := mo
  omega
theorem MadeBy.small {f a f1 a1 : List (Option Int)} {m m1 : Int} {t bb : Nat} (G : ShapeG f a m) (M : MadeBy f a m f1 a1 m1 t bb) : Small f1 a1 m1 := by
  have l := M.lens G
  have g := M.grow G
  refine ⟨by omega, by omega, fun x hx i e => ?_, by omega⟩
  subst e
  have key : ∀ n, n < 40 → tmR f a m n = some i → i.natAbs < 10 ^ 20 := fun n hn h => by
    have := G.bound (n := n) (by omega) h
    omega
  rcases List.mem_append.mp hx with h | h
  · rw [M.ef] at h
    obtain ⟨n, hn, e⟩ := List.mem_map.mp h
    have := List.mem_range.mp hn
    exact key n (by omega) e
  · rw [M.ea] at h
    obtain ⟨n, hn, e⟩ := List.mem_map.mp h
    have := List.mem_range.mp hn
    exact key (bb + n) (by omega) e
theorem MadeBy.parts {f a f1 a1 : List (Option Int)} {m m1 : Int} {t bb : Nat} (G : ShapeG f a m) (M : MadeBy f a m f1 a1 m1 t bb) : Parts f1 a1 m1 := by
  have l := M.lens G
  have g := M.grow G
  refine ⟨fun e => ?_, by omega, by omega, g.1, by omega⟩
  rw [e] at l
  simp at l
  omega
theorem MadeBy.times {f a f1 a1 : List (Option Int)} {m m1 : Int} {t bb : Nat} (M : MadeBy f a m f1 a1 m1 t bb) (n : Nat) : tmR f1 a1 m1 n = tmR f a m n := by
  have := wide_times (c := 1) M.cn.qp (Nat.le_refl bb) M.cn.pos (by decide) n
  rw [Nat.one_mul, Int.natCast_one, Int.one_mul] at this
  rw [M.ef, M.ea]
  exact this
/-- the made row, told as its own parts -/
theorem MadeBy.live {f a f1 a1 : List (Option Int)} {m m1 : Int} {t bb : Nat} (G : ShapeG f a m) (M : MadeBy f a m f1 a1 m1 t bb) (n : Nat) (h : bb ≤ n) : ∃ x, tmR f a m n = some x := by
  have q := M.cn.qp.iter (n := n) h f.length
  have hp : f.length ≤ n + f.length * t := by
    have := Nat.le_mul_of_pos_right f.length M.cn.pos
    omega
  obtain ⟨x, hx⟩ := G.live (n + f.length * t) hp
  rw [hx] at q
  cases h : tmR f a m n with
  | some y => exact ⟨y, rfl⟩
  | none =>
    rw [h] at q
    cases q
theorem MadeBy.ok {f a f1 a1 : List (Option Int)} {m m1 : Int} {t bb : Nat} (G : ShapeG f a m) (M : MadeBy f a m f1 a1 m1 t bb) : OkRow f1 a1 m1 := by
  have := ok_of_mono (s := tmR f a m) (B := bb) (T := t) (M := m1) G.mono (M.live G) M.cn.pos (M.grow G).1 (M.cn.qp bb (Nat.le_refl _))
  rw [M.ef, M.ea]
  exact this
theorem MadeBy.text {f a f1 a1 : List (Option Int)} {m m1 : Int} {t bb : Nat} (G : ShapeG f a m) (M : MadeBy f a m f1 a1 m1 t bb) : Text12 f1 a1 m1 := by
  have l := M.lens G
  have g := M.grow G
  refine ⟨fun x hx i e => ?_, g.1, by omega, by omega, by omega, (M.parts G).ne⟩
  subst e
  have key : ∀ n, n < 40 → tmR f a m n = some i → i.natAbs < 10 ^ 12 := fun n hn h => by
    have := G.bound (n := n) (by omega) h
    omega
  rcases List.mem_append.mp hx with h | h
  · rw [M.ef] at h
    obtain ⟨n, hn, e⟩ := List.mem_map.mp h
    have := List.mem_range.mp hn
    exact key n (by omega) e
  · rw [M.ea] at h
    obtain ⟨n, hn, e⟩ := List.mem_map.mp h
    have := List.mem_range.mp hn
    exact key (bb + n) (by omega) e
theorem ShapeG.text {f a : List (Option Int)} {m : Int} (G : ShapeG f a m) : Text12 f a m ∧ Small f a m := by
  have l := G.lens
  have p := G.parts
  have m0 := p.m0
  obtain ⟨nn, fl, al, lo, hi, rfl, rfl, hp, hlo, hhi, h1, h2, hn, hf, ha, hb⟩ := G.ex
  have key : ∀ x ∈ List.replicate nn none ++ fl.map some ++ al.map some, ∀ i, x = some i → i.natAbs ≤ 2000 := fun x hx i e => by
    subst e
    have hm : i ∈ fl ++ al := by
      rcases List.mem_append.mp hx with h | h
      · rcases List.mem_append.mp h with h | h
        · cases (List.mem_replicate.mp h).2
        · obtain ⟨y, hy, e⟩ := List.mem_map.mp h
          rw [← Option.some.inj e]
          exact List.mem_append_left _ hy
      · obtain ⟨y, hy, e⟩ := List.mem_map.mp h
        rw [← Option.some.inj e]
        exact List.mem_append_right _ hy
    have := hb i hm
    omega
  refine ⟨⟨fun x hx i e => ?_, m0, by omega, by omega, by omega, p.ne⟩, ⟨by omega, by omega, fun x hx i e => ?_, by omega⟩⟩
  · have := key x hx i e
    omega
  · have := key x hx i e
    omega
/-- a made row, read again, is the same -/
theorem MadeBy.again {f a f1 a1 f2 a2 : List (Option Int)} {m m1 m2 : Int} {t bb : Nat} (G : ShapeG f a m) (M : MadeBy f a m f1 a1 m1 t bb) (N : MadeOf f1 a1 m1 f2 a2 m2) : f2 = f1 ∧ a2 = a1 ∧ m2 = m1 := by
  have l := M.lens G
  obtain ⟨t', b', C, h1, h2, h3, h4⟩ := made_canon N (by omega) (fun n hn => by
    rw [M.times]
    obtain ⟨x, hx⟩ := M.live G n (by omega)
    rw [hx]
    exact fun z => nomatch z)
  have e : tmR f1 a1 m1 = tmR f a m := funext M.times
  rw [e] at C h3 h4
  obtain ⟨rfl, rfl, e2⟩ := M.cn.uniq C (fun N => ⟨f.length + N, by omega, by
    obtain ⟨x, hx⟩ := G.live (f.length + N) (by omega)
    rw [hx]
    exact fun z => nomatch z⟩)
  rw [h3, h4, M.ef, M.ea]
  exact ⟨rfl, rfl, e2.symm⟩
end My

namespace My
open PySem PySem.Spec PyProof.Rows L2
local macro_rules | `(tactic| walk_at "side") => `(tactic| first | (dsimp only; omega) | exact ⟨by omega, by omega⟩ | exact Or.inl ⟨by omega, by omega⟩ | exact Or.inr ⟨by omega, by omega⟩ | decide)
local macro_rules | `(tactic| walk_at "sq") => `(tactic| first | assumption | exact SqL.of (by assumption) | exact SqT.of (by assumption) | (refine L2.Same.seq (by assumption) ?_; walk_at "sq") | (refine L2.Same.seqT (by assumption) ?_; walk_at "sq") | exact Or.inl (by walk_at "sq") | exact Or.inr (by walk_at "sq"))
local macro_rules | `(tactic| walk_at "1") => `(tactic| first
  | refine ⟨_, rfl, iteT ?_⟩
  | refine ⟨_, rfl, iteF ?_⟩
  | refine ⟨_, rfl, ?_⟩
  | refine ⟨_, _, rfl, rfl, (by walk_at "side"), ?_⟩
  | refine ⟨_, _, rfl, rfl, ?_⟩
  | refine ⟨_, _, _, _, true, rfl, .ty _, .base (.int _), kit_ty (a := "int") (by decide +kernel), ?_⟩
  | refine ⟨_, _, _, _, false, rfl, .ty _, .base (.int _), kit_ty (a := "int") (by decide +kernel), ?_⟩
  | refine ⟨_, _, rfl, (by walk_at "sq"), ?_⟩
  | refine ⟨_, _, _, _, rfl, rfl, (by walk_at "sq"), (by first | rfl | assumption), ?_⟩
  | refine Or.inl ⟨_, _, _, _, rfl, rfl, (by walk_at "sq"), (by first | rfl | assumption), ?_⟩
  | refine Or.inr (Or.inl ⟨_, _, _, _, rfl, rfl, (by walk_at "sq"), (by first | rfl | assumption), ?_⟩)
  | refine ⟨_, _, rfl, Or.inl ⟨(by walk_at "sq"), ?_⟩⟩
  | refine ⟨rfl, ?_⟩
  | refine iteT ?_
  | refine iteF ?_
  | refine ⟨_, _, _, _, _, rfl, (by assumption), (by assumption), (by assumption), (by assumption), ?_⟩
  | refine Or.inl ⟨_, rfl, ?_⟩
  | refine Or.inr ⟨_, rfl, ?_⟩
  | refine ⟨_, _, rfl, (by walk_at "side"), ?_⟩
  | refine ⟨_, _, rfl, ?_⟩)
local macro_rules | `(tactic| walk_at "fld") => `(tactic| skip)
local macro_rules | `(tactic| walk_at "s") => `(tactic| repeat walk_at "1")
local macro_rules | `(tactic| walk_at "size") => `(tactic| first | exact Nat.le_of_ble_eq_true rfl | (simp only [List.length_map, List.length_append, List.length_cons, List.length_nil]; omega))
local macro_rules | `(tactic| walk_at "new") => `(tactic| (first | refine ⟨(by walk_at "size"), fun p hp => ?_⟩ | refine fun p hp => ?_); (generalize hq : upd _ p _ = H1); (obtain ⟨s, e⟩ := new_facts hp hq); clear hq)
local macro_rules | `(tactic| walk_at "1") => `(tactic| refine And.intro (by assumption) ?_)

open TL
/-- the own == and str of the class of rows -/
structure EqC (P : Program) (w : World) (K : PySem.W.Frag) (mg : Str → Option Value) (base : Heap) (C : Addr) : Prop where
  ex : ∃ f fd, FnOk P w K mg base CX0 1 f fd ["self", "other"] (spEqRow K C) ∧ PySem.W.findIn K (.ref C) "__eq__" = some (some (.ref f)) ∧ PySem.W.isFn K (.ref f) = true ∧ Binds K fd ["self", "other"] []
structure StrC (P : Program) (w : World) (K : PySem.W.Frag) (mg : Str → Option Value) (base : Heap) (C : Addr) : Prop where
  ex : ∃ f fd, FnOk P w K mg base CX0 2 f fd ["self"] (spStr C) ∧ PySem.W.findIn K (.ref C) "__str__" = some (some (.ref f)) ∧ PySem.W.isFn K (.ref f) = true ∧ Binds K fd ["self"] []
section
variable {X : Cx} {C : Addr}
theorem EqC.own (O : EqC X.prog X.w X.K X.mg X.base C) (Z : RowEq X.K X.mg C) : EqOwn X CX0 1 C (spEqRow X.K C) E0 := by
  obtain ⟨f, fd, h⟩ := O.ex
  exact ⟨⟨f, fd, _, h⟩, Z.ne, Z.mro, pass0⟩
theorem StrC.own (O : StrC X.prog X.w X.K X.mg X.base C) : StrOwn X CX0 2 C (spStr C) E0 := by
  obtain ⟨f, fd, h⟩ := O.ex
  exact ⟨⟨f, fd, _, h⟩, pass0⟩
theorem op_eqC (O : EqC X.prog X.w X.K X.mg X.base C) (Z : RowEq X.K X.mg C) (hr : Room 1 X.A) : OpR X (compareOp .Eq) (rEqOwn X.K C (spEqRow X.K C) E0) := op_eqOwn (O.own Z) hr
theorem op_neC (O : EqC X.prog X.w X.K X.mg X.base C) (Z : RowEq X.K X.mg C) (hr : Room 2 X.A) : OpR X (compareOp .NotEq) (rNeOwn X.K C (spEqRow X.K C) E0) := op_neOwn (O.own Z) hr
theorem call_strC (O : StrC X.prog X.w X.K X.mg X.base C) (hr : Room 4 X.A) : CallR X (.type "str") (rStrOwn C (spStr C) E0) := call_strOwn O.own hr
end
section
variable {K : PySem.W.Frag} {mg : Str → Option Value} {H : Hp} {Q : VK} {C p q : Addr} {f a f2 a2 : List (Option Int)} {m m2 : Int} {E : XK}
/-- readings of == between rows -/
theorem rd_eqRow (Z : RowEq K mg C) (h1 : RowAt C H p f a m) (h2 : RowAt C H q f2 a2 m2) (k : Q (.bl (decide (f = f2 ∧ a = a2 ∧ m = m2))) H) : rEqOwn K C (spEqRow K C) E (.ref p) (.ref q) H Q := by
  obtain ⟨dx, pf, pa, e1, _⟩ := id h1
  obtain ⟨dy, _, _, e2, _⟩ := id h2
  exact ⟨p, dx, _, _, rfl, e1, Z.ins _ _ _ _ e2, Z.nself, p, f, a, m, _, rfl, h1, Or.inr ⟨q, f2, a2, m2, rfl, h2, k⟩⟩
theorem rd_neRow (Z : RowEq K mg C) (h1 : RowAt C H p f a m) (h2 : RowAt C H q f2 a2 m2) (k : Q (.bl (!decide (f = f2 ∧ a = a2 ∧ m = m2))) H) : rNeOwn K C (spEqRow K C) E (.ref p) (.ref q) H Q := by
  obtain ⟨dx, pf, pa, e1, _⟩ := id h1
  obtain ⟨dy, _, _, e2, _⟩ := id h2
  exact ⟨p, dx, _, _, rfl, e1, Z.ins _ _ _ _ e2, Z.nself, p, f, a, m, _, rfl, h1, Or.inr ⟨q, f2, a2, m2, rfl, h2, _, rfl, k⟩⟩
theorem rd_eqTup (Z : RowEq K mg C) (h1 : RowAt C H p f a m) {xs : List V} (h2 : H q = some (.tup xs)) (k : Q (.bl false) H) : rEqOwn K C (spEqRow K C) E (.ref p) (.ref q) H Q := by
  obtain ⟨dx, pf, pa, e1, _⟩ := id h1
  exact ⟨p, dx, _, _, rfl, e1, .base (.tup h2), Z.ntup, p, f, a, m, _, rfl, h1, Or.inl ⟨_, .base (.tup h2), Z.tup, k⟩⟩
theorem rd_eqStr (Z : RowEq K mg C) (h1 : RowAt C H p f a m) {y : Str} (k : Q (.bl false) H) : rEqOwn K C (spEqRow K C) E (.ref p) (.str y) H Q := by
  obtain ⟨dx, pf, pa, e1, _⟩ := id h1
  exact ⟨p, dx, _, _, rfl, e1, .base (.str y), Z.nstr, p, f, a, m, _, rfl, h1, Or.inl ⟨_, .base (.str y), Z.str, k⟩⟩
end
theorem rd_neL {K : PySem.W.Frag} {H : Hp} {Q : VK} {p q : Addr} (xs ys : List (Option Int)) (h1 : SqL K H p (xs.map ov)) (h2 : SqL K H q (ys.map ov)) (k : Q (.bl (!decide (xs = ys))) H) : rNeD K (.ref p) (.ref q) H Q :=
  ⟨_, _, .lst h1 (dpAll_ov xs), .lst h2 (dpAll_ov ys), shaped_l xs, shaped_l ys, by
    rw [show PyData.eqv (.list (xs.map od)) (.list (ys.map od)) = PyData.eqvAll (xs.map od) (ys.map od) from rfl, eqvAll_od]
    exact k⟩

abbrev s_law : Stmt := topS 37
theorem sc_law : FnScope ["script", "k", "box", "turn", "told", "made", "line", "more", "words", "at", "odd", "bent", "due", "told_by", "n"] ["script"] (defScope s_law) := ⟨rfl, rfl, rfl, by decide +kernel, rfl, by decide +kernel, by decide +kernel⟩
abbrev turnBody : List Stmt := forBody (nth (forBody (nth (defBody s_law) 0)) 1)
abbrev moreBody : List Stmt := forBody (nth turnBody 4)
/-- what stands from the making of a row on -/
structure InB (C b pt q : Addr) (f a f1 a1 : List (Option Int)) (m m1 : Int) (t bb : Nat) (H : Hp) : Prop where
  box : BoxAt H b
  told : ToldB b H pt f a m
  g : ShapeG f a m
  made : RowAt C H q f1 a1 m1
  by_ : MadeBy f a m f1 a1 m1 t bb
theorem InB.same {C b pt q : Addr} {f a f1 a1 : List (Option Int)} {m m1 : Int} {t bb : Nat} {H H' : Hp} (I : InB C b pt q f a f1 a1 m m1 t bb H) (s : Same H H') : InB C b pt q f a f1 a1 m m1 t bb H' :=
  ⟨I.box.same s, I.told.bx (Bx.of s), I.g, s.row I.made, I.by_⟩
theorem InB.bx {C b pt q : Addr} {f a f1 a1 : List (Option Int)} {m m1 : Int} {t bb : Nat} {H H' : Hp} (I : InB C b pt q f a f1 a1 m m1 t bb H) (s : Bx b H H') (hb : BoxAt H' b) : InB C b pt q f a f1 a1 m m1 t bb H' :=
  ⟨hb, I.told.bx s, I.g, I.made.bx I.box s, I.by_⟩
theorem ToldB.s {b p : Addr} {H : Hp} {f a : List (Option Int)} {m : Int} (h : ToldB b H p f a m) : ToldS H p f a m := by
  obtain ⟨pf, pa, _, _, _, h1, h2, h3⟩ := h
  exact ⟨pf, pa, h1, Or.inl h2, Or.inl h3⟩
end My

namespace My
open PySem PySem.Spec PyProof.Rows L2
local macro_rules | `(tactic| walk_at "side") => `(tactic| first | (dsimp only; omega) | exact ⟨by omega, by omega⟩ | exact Or.inl ⟨by omega, by omega⟩ | exact Or.inr ⟨by omega, by omega⟩ | decide)
local macro_rules | `(tactic| walk_at "sq") => `(tactic| first | assumption | exact SqL.of (by assumption) | exact SqT.of (by assumption) | (refine L2.Same.seq (by assumption) ?_; walk_at "sq") | (refine L2.Same.seqT (by assumption) ?_; walk_at "sq") | exact Or.inl (by walk_at "sq") | exact Or.inr (by walk_at "sq"))
local macro_rules | `(tactic| walk_at "1") => `(tactic| first
  | refine ⟨_, rfl, iteT ?_⟩
  | refine ⟨_, rfl, iteF ?_⟩
  | refine ⟨_, rfl, ?_⟩
  | refine ⟨_, _, rfl, rfl, (by walk_at "side"), ?_⟩
  | refine ⟨_, _, rfl, rfl, ?_⟩
  | refine ⟨_, _, _, _, true, rfl, .ty _, .base (.int _), kit_ty (a := "int") (by decide +kernel), ?_⟩
  | refine ⟨_, _, _, _, false, rfl, .ty _, .base (.int _), kit_ty (a := "int") (by decide +kernel), ?_⟩
  | refine ⟨_, _, rfl, (by walk_at "sq"), ?_⟩
  | refine ⟨_, _, _, _, rfl, rfl, (by walk_at "sq"), (by first | rfl | assumption), ?_⟩
  | refine Or.inl ⟨_, _, _, _, rfl, rfl, (by walk_at "sq"), (by first | rfl | assumption), ?_⟩
  | refine Or.inr (Or.inl ⟨_, _, _, _, rfl, rfl, (by walk_at "sq"), (by first | rfl | assumption), ?_⟩)
  | refine ⟨_, _, rfl, Or.inl ⟨(by walk_at "sq"), ?_⟩⟩
  | refine ⟨rfl, ?_⟩
  | refine iteT ?_
  | refine iteF ?_
  | refine ⟨_, _, _, _, _, rfl, (by assumption), (by assumption), (by assumption), (by assumption), ?_⟩
  | refine Or.inl ⟨_, rfl, ?_⟩
  | refine Or.inr ⟨_, rfl, ?_⟩
  | refine ⟨_, _, rfl, (by walk_at "side"), ?_⟩
  | refine ⟨_, _, rfl, ?_⟩)
local macro_rules | `(tactic| walk_at "fld") => `(tactic| skip)
local macro_rules | `(tactic| walk_at "s") => `(tactic| repeat walk_at "1")
local macro_rules | `(tactic| walk_at "size") => `(tactic| first | exact Nat.le_of_ble_eq_true rfl | (simp only [List.length_map, List.length_append, List.length_cons, List.length_nil]; omega))
local macro_rules | `(tactic| walk_at "new") => `(tactic| (first | refine ⟨(by walk_at "size"), fun p hp => ?_⟩ | refine fun p hp => ?_); (generalize hq : upd _ p _ = H1); (obtain ⟨s, e⟩ := new_facts hp hq); clear hq)
local macro_rules | `(tactic| walk_at "1") => `(tactic| refine And.intro (by assumption) ?_)
local macro_rules | `(tactic| walk_at "at") => `(tactic| first | assumption | (refine My.Same.at (by assumption) ?_; walk_at "at") | (refine My.Bx.at (by assumption) (by assumption) ?_; walk_at "at"))

open TL
theorem due_text {W : List Str} (h : ¬ FormW W) : dueW W = .text := if_neg h
theorem due_row {W : List Str} (h : FormW W) (hc : chB none (thingsW W) = false) : dueW W = .row := by
  have hwi := wrong_iff (F := firstW W) (more_in h).1 (again_len h).2
  rw [show firstW W ++ againW W = thingsW W from List.take_append_drop _ _, hc] at hwi
  have : wrongW W ≠ none := fun q => Bool.false_ne_true (hwi.mp q).1
  unfold dueW
  rw [if_pos h, if_neg this]
/-- a line of good words -/
theorem line_of {C : Addr} {H : Hp} {W : List Str} {x : Str} {d : Due} (e : x = Txt.join " " W) (hne : W ≠ []) (hg : ∀ w ∈ W, GoodW w) (hl : W.length < 100) (hd : dueW W = d) : LineAt C H (.str x) d := by
  have hs : Txt.split x " " = W := by rw [e]; exact split_words hne hg
  have hj := join_len hg
  refine Or.inr ⟨x, rfl, by rw [e]; omega, by rw [hs]; omega, fun w hw => ?_, by rw [hs]; exact hd.symm⟩
  rw [hs] at hw
  have := (hg w hw).len
  omega
section
variable {P : Program} {w : World} {K : PySem.W.Frag} {mg : Str → Option Value} {base : Heap} {C D U : Addr} {fa : Addr} {cdv : Value} {A : Around} {outer : List Env} {s : Shared} {H : Hp} {E : XK}

def tS0 : TS := fun D σ H1 => ∃ (b : Addr) (j : Nat) (y0 y1 y4 y5 y6 y7 y8 y9 y10 y11 y12 y13 y14 : Option V), σ = [y0, y1, some (.ref b), some (.int (j : Nat)), y4, y5, y6, y7, y8, y9, y10, y11, y12, y13, y14] ∧ BoxAt H1 b ∧
  ∀ (H' : Hp) (p : Addr) (f a : List (Option Int)) (m : Int), Bx b H1 H' → BoxAt H' b → ToldB b H' p f a m → ShapeG f a m → D.nx [y0, y1, some (.ref b), some (.int (j : Nat)), some (.ref p), y5, y6, y7, y8, y9, y10, y11, y12, y13, y14] H'
theorem blk_s0 (o_law_row : Own P w K mg base "_law_row" 3 ["box", "is_low"] spRow) (hr : Room 9 (A.deeper (envOfC "law" (defScope s_law) s.heap.objs.size fa cdv))) :
    PS (cxOf CX0 P w K mg base ["script", "k", "box", "turn", "told", "made", "line", "more", "words", "at", "odd", "bent", "due", "told_by", "n"] "law" (defScope s_law) fa cdv A outer s H E).nox (nth turnBody 0) tS0 := by
  refine ps_pre (ps_set (i := 4) sc_law.nd rfl (Or.inl rfl) (pe_own o_law_row (hr.mono (by decide)) (pa_cons (pv 2) (pa_cons (pe_cmpR op_eq (pe_op op_mod (pv 3) pe_int) pe_int (nomark _)) pa_nil)))) ?_
  rintro D σ H1 ⟨b, j, y0, y1, y4, y5, y6, y7, y8, y9, y10, y11, y12, y13, y14, rfl, hb, k⟩
  walk_at "s"
  refine fun H' p f a m B' b' n T S => ?_
  exact k H' p f a m B' b' T S.g
def tS1 (C : Addr) : TS := fun D σ H1 => ∃ (b pt : Addr) (f a : List (Option Int)) (m : Int) (y0 y1 y3 y5 y6 y7 y8 y9 y10 y11 y12 y13 y14 : Option V), σ = [y0, y1, some (.ref b), y3, some (.ref pt), y5, y6, y7, y8, y9, y10, y11, y12, y13, y14] ∧ BoxAt H1 b ∧ ToldB b H1 pt f a m ∧ ShapeG f a m ∧
  ∀ (H' : Hp) (q : Addr) (f1 a1 : List (Option Int)) (m1 : Int) (t bb : Nat), Same H1 H' → InB C b pt q f a f1 a1 m m1 t bb H' → D.nx [y0, y1, some (.ref b), y3, some (.ref pt), some (.ref q), some (.str (rowText f a m)), y7, y8, y9, y10, y11, y12, y13, y14] H'
theorem blk_s1 (o_law_made : Own P w K mg base "_law_made" 6 ["told"] (spMade C)) (o_law_text : Own P w K mg base "_law_text" 1 ["told"] spText) (hr : Room 9 (A.deeper (envOfC "law" (defScope s_law) s.heap.objs.size fa cdv))) :
    PS (cxOf CX0 P w K mg base ["script", "k", "box", "turn", "told", "made", "line", "more", "words", "at", "odd", "bent", "due", "told_by", "n"] "law" (defScope s_law) fa cdv A outer s H E).nox (nth turnBody 1) (tS1 C) := by
  refine ps_pre (ps_par (i := 5) (j := 6) (by rfl) sc_law.nd rfl rfl (by decide) rfl rfl (pa_cons (pe_own o_law_made (hr.mono (by decide)) (pa_cons (pv 4) pa_nil)) (pa_cons (pe_own o_law_text (hr.mono (by decide)) (pa_cons (pv 4) pa_nil)) pa_nil)) (by rfl)) ?_
  rintro D σ H1 ⟨b, pt, f, a, m, y0, y1, y3, y5, y6, y7, y8, y9, y10, y11, y12, y13, y14, rfl, hb, hT, G, k⟩
  refine ⟨_, rfl, pt, f, a, m, rfl, ?_, G.ok, G.parts, fun H2 q f1 a1 m1 s2 n2 r2 mo => ?_⟩
  · obtain ⟨pf, pa, _, _, _, h1, h2, h3⟩ := hT
    exact ⟨pf, pa, h1, h2, h3⟩
  obtain ⟨t, bb, mb⟩ := made_by G (Same2.refl G) mo
  have hT2 := hT.bx (Bx.of s2)
  refine ⟨_, rfl, pt, f, a, m, rfl, hT2.s, G.text.2, fun H3 s3 => ?_⟩
  refine ⟨_, _, rfl, ?_⟩
  exact k H3 q f1 a1 m1 t bb (s2.trans s3) ⟨(hb.same s2).same s3, hT2.bx (Bx.of s3), G, s3.row r2, mb⟩
def tKeep (C : Addr) : TS := fun D σ H8 => ∃ (b pt q : Addr) (f a f1 a1 : List (Option Int)) (m m1 : Int) (t bb : Nat) (y0 y1 y3 y7 y8 y9 y10 y11 y12 y13 y14 : Option V), σ = [y0, y1, some (.ref b), y3, some (.ref pt), some (.ref q), some (.str (rowText f a m)), y7, y8, y9, y10, y11, y12, y13, y14] ∧ InB C b pt q f a f1 a1 m m1 t bb H8 ∧ ∀ H', Same H8 H' → D.nx [y0, y1, some (.ref b), y3, some (.ref pt), some (.ref q), some (.str (rowText f a m)), y7, y8, y9, y10, y11, y12, y13, y14] H'
theorem line_told {C : Addr} {H : Hp} {f a : List (Option Int)} {m : Int} (S : Text12 f a m) (O : OkRow f a m) : LineAt C H (.str (rowText f a m)) (.args f a m) := by
  obtain ⟨h1, h2⟩ := S.line
  refine Or.inr ⟨_, rfl, h1, by rw [h2, rowWords_length]; have := S.lf; have := S.la; omega, fun w hw => ?_, (S.due O).symm⟩
  rw [h2] at hw
  have := (S.good w hw).len
  omega
set_option maxHeartbeats 8000000 in
theorem blk_s2 (T : Txt mg) (R : RowCls K C) (Z : RowEq K mg C) (oq : EqC P w K mg base C) (ot : StrC P w K mg base C) (o_law_text : Own P w K mg base "_law_text" 1 ["told"] spText) (o_law_heard : Own P w K mg base "_law_heard" 7 ["line"] (spHeard C)) (hr : Room 9 (A.deeper (envOfC "law" (defScope s_law) s.heap.objs.size fa cdv))) :
    PS (cxOf CX0 P w K mg base ["script", "k", "box", "turn", "told", "made", "line", "more", "words", "at", "odd", "bent", "due", "told_by", "n"] "law" (defScope s_law) fa cdv A outer s H E).nox (nth turnBody 2) (tKeep C) := by
  refine ps_pre (ps_if (PW.pt (pw_or (pt_cmpR op_ne (pe_callTy (call_strC ot (hr.mono (by decide))) (by rfl) T.str (by decide +kernel) (pa_cons (pv 5) pa_nil)) (pe_own o_law_text (hr.mono (by decide)) (pa_cons (pe_tup (pa_cons (pe_fld (pv 5) rfl) (pa_cons (pe_fld (pv 5) rfl) (pa_cons (pe_fld (pv 5) rfl) pa_nil)))) pa_nil)) (nomark _)) (pw_or1 (pt_cmpR (op_neC oq Z (hr.mono (by decide))) (pe_own o_law_heard (hr.mono (by decide)) (pa_cons (pv 6) pa_nil)) (pv 5) (nomark _)))))
            (pss_one (ps_ret pe_bl))
            pss_nil) ?_
  rintro D σ H1 ⟨b, pt, q, f, a, f1, a1, m, m1, t, bb, y0, y1, y3, y7, y8, y9, y10, y11, y12, y13, y14, rfl, I, k⟩
  obtain ⟨dx, qf, qa, g1, g2, g3⟩ := id I.made
  have cl := R.cl
  have nF := R.nF
  have nA := R.nA
  have nM := R.nM
  have hl := lk_again qf qa m1
  have hl2 := lk_more qf qa m1
  have hl3 := lk_first qf qa m1
  refine ⟨_, rfl, q, dx, _, rfl, g1, q, f1, a1, m1, rfl, I.made, I.by_.small I.g, fun H2 s2 => ⟨_, rfl, ?_⟩⟩
  have I2 := I.same s2
  have g12 := s2 _ _ g1
  have g22 := s2 _ _ g2
  have g32 := s2 _ _ g3
  clear g1 g2 g3
  walk_at "s"
  walk_at "new"
  rename_i p3 n3 H3 s3 e3
  have g23 := s3 _ _ g22
  have g33 := s3 _ _ g32
  have I3 := I2.same s3
  refine ⟨p3, f1, a1, m1, rfl, ⟨qf, qa, e3, Or.inr g23, Or.inr g33⟩, I.by_.small I.g, fun H4 s4 => ?_⟩
  walk_at "s"
  rw [str_eq, decide_eq_true rfl]
  have I4 := I3.same s4
  walk_at "s"
  refine ⟨_, _, rfl, line_told I.g.text.1 I.g.ok, fun H5 q5 f5 a5 m5 s5 r5 mo5 => ?_⟩
  obtain ⟨t5, b5, mb5⟩ := made_by I.g (Same2.refl I.g) mo5
  have I5 := I4.same s5
  walk_at "s"
  refine rd_neRow Z r5 I5.made ?_
  rw [decide_eq_true (mb5.uniq I.g I.by_)]
  walk_at "s"
  exact k _ (s2.trans (s3.trans (s4.trans s5)))
set_option maxHeartbeats 8000000 in
theorem blk_s3 (T : Txt mg) (Z : RowEq K mg C) (oq : EqC P w K mg base C) (ot : StrC P w K mg base C) (R : RdOk P w K mg base C D U) (hr : Room 9 (A.deeper (envOfC "law" (defScope s_law) s.heap.objs.size fa cdv))) :
    PS (cxOf CX0 P w K mg base ["script", "k", "box", "turn", "told", "made", "line", "more", "words", "at", "odd", "bent", "due", "told_by", "n"] "law" (defScope s_law) fa cdv A outer s H E).nox (nth turnBody 3) (tKeep C) := by
  obtain ⟨fR, fdR, pR, FR, SR, bR, mR⟩ := R.ex
  refine ps_pre (ps_if (pt_cmpR (op_neC oq Z (hr.mono (by decide))) (pe_smeth (pe_glob (v := .ref C) (by rfl) mR rfl) SR FR (hr.mono (by decide)) bR (fun σ => passAt takes0 σ) (pa_cons (pe_callTy (call_strC ot (hr.mono (by decide))) (by rfl) T.str (by decide +kernel) (pa_cons (pv 5) pa_nil)) pa_nil)) (pv 5) (nomark _))
            (pss_one (ps_ret pe_bl))
            pss_nil) ?_
  rintro D σ H1 ⟨b, pt, q, f, a, f1, a1, m, m1, t, bb, y0, y1, y3, y7, y8, y9, y10, y11, y12, y13, y14, rfl, I, k⟩
  obtain ⟨dx, qf, qa, g1, g2, g3⟩ := id I.made
  refine ⟨rfl, _, rfl, q, dx, _, rfl, g1, q, f1, a1, m1, rfl, I.made, I.by_.small I.g, fun H2 s2 => ⟨_, rfl, ?_⟩⟩
  have I2 := I.same s2
  refine ⟨_, _, rfl, line_told (I.by_.text I.g) (I.by_.ok I.g), fun H3 q3 f3 a3 m3 s3 r3 mo3 => ?_⟩
  obtain ⟨rfl, rfl, rfl⟩ := I.by_.again I.g mo3
  have I3 := I2.same s3
  walk_at "s"
  refine rd_neRow Z r3 I3.made ?_
  rw [decide_eq_true ⟨rfl, rfl, rfl⟩]
  walk_at "s"
  exact k _ (s2.trans s3)
set_option maxHeartbeats 8000000 in
theorem blk_s5 (o_law_heard : Own P w K mg base "_law_heard" 7 ["line"] (spHeard C)) (hr : Room 9 (A.deeper (envOfC "law" (defScope s_law) s.heap.objs.size fa cdv))) :
    PS (cxOf CX0 P w K mg base ["script", "k", "box", "turn", "told", "made", "line", "more", "words", "at", "odd", "bent", "due", "told_by", "n"] "law" (defScope s_law) fa cdv A outer s H E).nox (nth turnBody 5) (tKeep C) := by
  refine ps_pre (ps_if (PW.pt (pw_or (pt_cmpR op_ne (pe_own o_law_heard (hr.mono (by decide)) (pa_cons pe_str pa_nil)) pe_str (nomark _)) (pw_or1 (pt_cmpR op_ne (pe_own o_law_heard (hr.mono (by decide)) (pa_cons pe_str pa_nil)) pe_str (nomark _)))))
            (pss_one (ps_ret pe_bl))
            pss_nil) ?_
  rintro D σ H1 ⟨b, pt, q, f, a, f1, a1, m, m1, t, bb, y0, y1, y3, y7, y8, y9, y10, y11, y12, y13, y14, rfl, I, k⟩
  refine ⟨_, _, rfl, line_of (W := ["5", "3", "|", "4", "+", "01"]) (by decide +kernel) (by simp) ?_ (by decide) (due_text (by decide +kernel)), fun H2 s2 => ?_⟩
  · intro w hw
    simp only [List.mem_cons, List.not_mem_nil, or_false] at hw
    rcases hw with rfl | rfl | rfl | rfl | rfl | rfl <;> exact ⟨by decide, by decide, by decide⟩
  walk_at "s"
  refine ⟨_, _, rfl, line_of (W := ["5", "3", "|", "4", "+", "1"]) (by decide +kernel) (by simp) ?_ (by decide) (due_row (by decide +kernel) (by decide +kernel)), fun H3 s3 => ?_⟩
  · intro w hw
    simp only [List.mem_cons, List.not_mem_nil, or_false] at hw
    rcases hw with rfl | rfl | rfl | rfl | rfl | rfl <;> exact ⟨by decide, by decide, by decide⟩
  walk_at "s"
  exact k _ (s2.trans s3)
end
end My

namespace My
open PySem PySem.Spec PyProof.Rows L2
local macro_rules | `(tactic| walk_at "side") => `(tactic| first | (dsimp only; omega) | exact ⟨by omega, by omega⟩ | exact Or.inl ⟨by omega, by omega⟩ | exact Or.inr ⟨by omega, by omega⟩ | decide)
local macro_rules | `(tactic| walk_at "sq") => `(tactic| first | assumption | exact SqL.of (by assumption) | exact SqT.of (by assumption) | (refine L2.Same.seq (by assumption) ?_; walk_at "sq") | (refine L2.Same.seqT (by assumption) ?_; walk_at "sq") | exact Or.inl (by walk_at "sq") | exact Or.inr (by walk_at "sq"))
local macro_rules | `(tactic| walk_at "1") => `(tactic| first
  | refine ⟨_, rfl, iteT ?_⟩
  | refine ⟨_, rfl, iteF ?_⟩
  | refine ⟨_, rfl, ?_⟩
  | refine ⟨_, _, rfl, rfl, (by walk_at "side"), ?_⟩
  | refine ⟨_, _, rfl, rfl, ?_⟩
  | refine ⟨_, _, _, _, true, rfl, .ty _, .base (.int _), kit_ty (a := "int") (by decide +kernel), ?_⟩
  | refine ⟨_, _, _, _, false, rfl, .ty _, .base (.int _), kit_ty (a := "int") (by decide +kernel), ?_⟩
  | refine ⟨_, _, rfl, (by walk_at "sq"), ?_⟩
  | refine ⟨_, _, _, _, rfl, rfl, (by walk_at "sq"), (by first | rfl | assumption), ?_⟩
  | refine Or.inl ⟨_, _, _, _, rfl, rfl, (by walk_at "sq"), (by first | rfl | assumption), ?_⟩
  | refine Or.inr (Or.inl ⟨_, _, _, _, rfl, rfl, (by walk_at "sq"), (by first | rfl | assumption), ?_⟩)
  | refine ⟨_, _, rfl, Or.inl ⟨(by walk_at "sq"), ?_⟩⟩
  | refine ⟨rfl, ?_⟩
  | refine iteT ?_
  | refine iteF ?_
  | refine ⟨_, _, _, _, _, rfl, (by assumption), (by assumption), (by assumption), (by assumption), ?_⟩
  | refine Or.inl ⟨_, rfl, ?_⟩
  | refine Or.inr ⟨_, rfl, ?_⟩
  | refine ⟨_, _, rfl, (by walk_at "side"), ?_⟩
  | refine ⟨_, _, rfl, ?_⟩)
local macro_rules | `(tactic| walk_at "fld") => `(tactic| skip)
local macro_rules | `(tactic| walk_at "s") => `(tactic| repeat walk_at "1")
local macro_rules | `(tactic| walk_at "size") => `(tactic| first | exact Nat.le_of_ble_eq_true rfl | (simp only [List.length_map, List.length_append, List.length_cons, List.length_nil]; omega))
local macro_rules | `(tactic| walk_at "new") => `(tactic| (first | refine ⟨(by walk_at "size"), fun p hp => ?_⟩ | refine fun p hp => ?_); (generalize hq : upd _ p _ = H1); (obtain ⟨s, e⟩ := new_facts hp hq); clear hq)
local macro_rules | `(tactic| walk_at "1") => `(tactic| refine And.intro (by assumption) ?_)
local macro_rules | `(tactic| walk_at "at") => `(tactic| first | assumption | (refine My.Same.at (by assumption) ?_; walk_at "at") | (refine My.Bx.at (by assumption) (by assumption) ?_; walk_at "at"))

open TL
section
variable {P : Program} {w : World} {K : PySem.W.Frag} {mg : Str → Option Value} {base : Heap} {C D U : Addr} {fa : Addr} {cdv : Value} {A : Around} {outer : List Env} {s : Shared} {H : Hp} {E : XK}

def tKeepO (C : Addr) : TS := fun D σ H8 => ∃ (b pt q : Addr) (f a f1 a1 : List (Option Int)) (m m1 : Int) (t bb : Nat) (y0 y1 y3 y7 y8 y9 y10 y11 y12 y13 y14 : Option V), σ = [y0, y1, some (.ref b), y3, some (.ref pt), some (.ref q), some (.str (rowText f a m)), y7, y8, y9, y10, y11, y12, y13, y14] ∧ InB C b pt q f a f1 a1 m m1 t bb H8 ∧ ∀ H' z10, Same H8 H' → D.nx [y0, y1, some (.ref b), y3, some (.ref pt), some (.ref q), some (.str (rowText f a m)), y7, y8, y9, z10, y11, y12, y13, y14] H'
set_option maxHeartbeats 8000000 in
theorem blk_s6 (o_law_heard : Own P w K mg base "_law_heard" 7 ["line"] (spHeard C)) (hr : Room 9 (A.deeper (envOfC "law" (defScope s_law) s.heap.objs.size fa cdv))) :
    PS (cxOf CX0 P w K mg base ["script", "k", "box", "turn", "told", "made", "line", "more", "words", "at", "odd", "bent", "due", "told_by", "n"] "law" (defScope s_law) fa cdv A outer s H E).nox (nth turnBody 6) (tKeepO C) := by
  refine ps_pre (ps_for PassesOwn.never rfl (pi_tup (pe_tup (pa_cons pe_non (pa_cons pe_int (pa_cons (pe_tup (pa_cons pe_str pa_nil)) (pa_cons (pv 5) (pa_cons pe_str (pa_cons pe_str (pa_cons pe_str (pa_cons pe_str (pa_cons pe_str (pa_cons pe_str (pa_cons pe_str pa_nil))))))))))))) (pg_name (i := 10) sc_law.nd rfl (Or.inl rfl))
            (pss_one (ps_if (pt_cmpR op_ne (pe_own o_law_heard (hr.mono (by decide)) (pa_cons (pv 10) pa_nil)) pe_str (nomark _))
                (pss_one (ps_ret pe_bl))
                pss_nil))) ?_
  rintro D σ H1 ⟨b, pt, q, f, a, f1, a1, m, m1, t, bb, y0, y1, y3, y7, y8, y9, y10, y11, y12, y13, y14, rfl, I, k⟩
  walk_at "s"
  walk_at "new"
  rename_i p1 n1 H2 s2 e2
  walk_at "s"
  walk_at "new"
  rename_i p2 n2 H3 s3 e3
  have e23 := s3 _ _ e2
  have I3 := (I.same s2).same s3
  obtain ⟨dx, qf, qa, g1, _, _⟩ := id I3.made
  have all : ∀ x ∈ [V.non, V.int 3, V.ref p1, V.ref q, V.str "", V.str " ", V.str "| + 0", V.str "0 | 1", V.str "| 0 + 0 ", V.str "|  0 + 0", V.str "| 0 + -1"], LineAt C H3 x .text := by
    intro x hx
    have gw : ∀ W : List Str, (W.all fun w => decide (w.length ≤ 21) && decide (32 ∉ wcs w) && (wcs w).all fun c => decide (c < 128)) = true → ∀ w ∈ W, GoodW w := fun W h w hw => by
      have := List.all_eq_true.mp h w hw
      rw [Bool.and_eq_true, Bool.and_eq_true, decide_eq_true_eq, decide_eq_true_eq] at this
      exact ⟨this.1.1, this.1.2, fun c hc => of_decide_eq_true (List.all_eq_true.mp this.2 c hc)⟩
    simp only [List.mem_cons, List.not_mem_nil, or_false] at hx
    rcases hx with rfl | rfl | rfl | rfl | rfl | rfl | rfl | rfl | rfl | rfl | rfl
    · exact Or.inl ⟨.non, rfl⟩
    · exact Or.inl ⟨.int 3, rfl⟩
    · exact Or.inl ⟨.tup e23, rfl⟩
    · exact Or.inl ⟨.obj g1, rfl⟩
    · exact line_of (W := [""]) (by decide +kernel) (by simp) (gw _ (by decide +kernel)) (by decide) (due_text (by decide +kernel))
    · exact line_of (W := ["", ""]) (by decide +kernel) (by simp) (gw _ (by decide +kernel)) (by decide) (due_text (by decide +kernel))
    · exact line_of (W := ["|", "+", "0"]) (by decide +kernel) (by simp) (gw _ (by decide +kernel)) (by decide) (due_text (by decide +kernel))
    · exact line_of (W := ["0", "|", "1"]) (by decide +kernel) (by simp) (gw _ (by decide +kernel)) (by decide) (due_text (by decide +kernel))
    · exact line_of (W := ["|", "0", "+", "0", ""]) (by decide +kernel) (by simp) (gw _ (by decide +kernel)) (by decide) (due_text (by decide +kernel))
    · exact line_of (W := ["|", "", "0", "+", "0"]) (by decide +kernel) (by simp) (gw _ (by decide +kernel)) (by decide) (due_text (by decide +kernel))
    · exact line_of (W := ["|", "0", "+", "-1"]) (by decide +kernel) (by simp) (gw _ (by decide +kernel)) (by decide) (due_text (by decide +kernel))
  generalize [V.non, V.int 3, V.ref p1, V.ref q, V.str "", V.str " ", V.str "| + 0", V.str "0 | 1", V.str "| 0 + 0 ", V.str "|  0 + 0", V.str "| 0 + -1"] = xs at e3 all
  refine ⟨p2, rfl, ⟨_, SqT.of e3⟩, for_it walk_tup (fun i σ H' => ∃ z10, σ = [y0, y1, some (.ref b), y3, some (.ref pt), some (.ref q), some (.str (rowText f a m)), y7, y8, y9, z10, y11, y12, y13, y14] ∧ Same H3 H') ⟨_, rfl, Same.refl _⟩ (fun i σ H' _ h => by
    obtain ⟨_, _, s4⟩ := h
    exact SqT.of (s4 _ _ e3)) ?_ ?_⟩
  · rintro i x σ H4 H5 hi ⟨z10, rfl, s4⟩ ⟨rfl, hx⟩
    have hL := (all x (List.mem_of_getElem? hx)).same s4
    refine ⟨_, rfl, x, _, rfl, hL, fun H6 s6 => ?_⟩
    walk_at "s"
    first | exact s4.trans s6 | exact ⟨_, rfl, s4.trans s6⟩
  · rintro σ H4 ⟨z10, rfl, s4⟩
    exact k _ z10 (s2.trans (s3.trans s4))
/-- the words that are put in -/
def oddW : List Str := ["", "-", "|", "+", "01", "-0", "x", "7", "-3", "1234567890123", "123456789012"]
theorem oddW_good : ∀ w ∈ oddW, GoodW w := by
  have h : (oddW.all fun w => decide (w.length ≤ 21) && decide (32 ∉ wcs w) && (wcs w).all fun c => decide (c < 128)) = true := by decide +kernel
  intro w hw
  have := List.all_eq_true.mp h w hw
  rw [Bool.and_eq_true, Bool.and_eq_true, decide_eq_true_eq, decide_eq_true_eq] at this
  exact ⟨this.1.1, this.1.2, fun c hc => of_decide_eq_true (List.all_eq_true.mp this.2 c hc)⟩
def tBent (C : Addr) : TS := fun D σ H8 => ∃ (b pt q : Addr) (f a f1 a1 : List (Option Int)) (m m1 : Int) (t bb : Nat) (y0 y1 y3 y7 y8 y9 y10 y11 y12 y13 y14 : Option V), σ = [y0, y1, some (.ref b), y3, some (.ref pt), some (.ref q), some (.str (rowText f a m)), y7, y8, y9, y10, y11, y12, y13, y14] ∧ InB C b pt q f a f1 a1 m m1 t bb H8 ∧
  ∀ H' (W : List Str) z8 z9 z10, Bx b H8 H' → BoxAt H' b → W ≠ [] → (∀ w ∈ W, GoodW w) → W.length < 100 → D.nx [y0, y1, some (.ref b), y3, some (.ref pt), some (.ref q), some (.str (rowText f a m)), y7, z8, z9, z10, some (.str (Txt.join " " W)), y12, y13, y14] H'
set_option maxHeartbeats 8000000 in
theorem blk_bent {rest : List Stmt} {u : TS} (T : Txt mg) (o_law_take : Own P w K mg base "_law_take" 1 ["box", "many"] spTake) (o_law_pick : Own P w K mg base "_law_pick" 2 ["box", "some"] spPick) (hr : Room 9 (A.deeper (envOfC "law" (defScope s_law) s.heap.objs.size fa cdv))) (hrest : PSs (cxOf CX0 P w K mg base ["script", "k", "box", "turn", "told", "made", "line", "more", "words", "at", "odd", "bent", "due", "told_by", "n"] "law" (defScope s_law) fa cdv A outer s H E).nox rest u) :
    PSs (cxOf CX0 P w K mg base ["script", "k", "box", "turn", "told", "made", "line", "more", "words", "at", "odd", "bent", "due", "told_by", "n"] "law" (defScope s_law) fa cdv A outer s H E).nox (nth moreBody 0 :: nth moreBody 1 :: nth moreBody 2 :: nth moreBody 3 :: nth moreBody 4 :: rest) (tSeq (tBent C) u) := by
  refine pss_pre (pss_cons (ps_set (i := 8) sc_law.nd rfl (Or.inl rfl) (pe_m1 PySem.F.slot_str_split PySem.F.type_str_split mt_split (pv 6) pe_str))
              (pss_cons (ps_set (i := 9) sc_law.nd rfl (Or.inl rfl) (pe_own o_law_take (hr.mono (by decide)) (pa_cons (pv 2) (pa_cons (pe_callB call_len_seq (by rfl) T.len PySem.boot_len (pa_cons (pv 8) pa_nil)) pa_nil))))
              (pss_cons (ps_set (i := 10) sc_law.nd rfl (Or.inl rfl) (pe_lst (pa_cons pe_str (pa_cons pe_str (pa_cons pe_str (pa_cons pe_str (pa_cons pe_str (pa_cons pe_str (pa_cons pe_str (pa_cons pe_str (pa_cons pe_str (pa_cons pe_str (pa_cons pe_str pa_nil)))))))))))))
              (pss_cons (ps_set (i := 8) sc_law.nd rfl (Or.inl rfl) (pe_op op_cat (pe_op op_cat (pe_slice sl_list (pv 8) po_none (po_some (pv 9))) (pe_op op_rep (pe_lst (pa_cons (pe_own o_law_pick (hr.mono (by decide)) (pa_cons (pv 2) (pa_cons (pv 10) pa_nil))) pa_nil)) (pe_own o_law_take (hr.mono (by decide)) (pa_cons (pv 2) (pa_cons pe_int pa_nil))))) (pe_slice sl_list (pv 8) (po_some (pe_op op_add (pv 9) (pe_own o_law_take (hr.mono (by decide)) (pa_cons (pv 2) (pa_cons pe_int pa_nil))))) po_none)))
              (pss_cons (ps_set (i := 11) sc_law.nd rfl (Or.inl rfl) (pe_m1 PySem.F.slot_str_join PySem.F.type_str_join mt_join pe_str (pv 8))) hrest))))) ?_
  rintro D σ H1 ⟨b, pt, q, f, a, f1, a1, m, m1, t, bb, y0, y1, y3, y7, y8, y9, y10, y11, y12, y13, y14, rfl, I, k⟩
  have h1000 : 1000 < sizeLine := small1000 (Nat.le_refl _)
  have lg := I.g.lens
  have St := I.g.text.1
  obtain ⟨hl1, hl2⟩ := St.line
  have hne := I.g.ne
  have hWl := rowWords_length (f := f) (a := a) (m := m)
  have hWg := St.good
  have hx2 : (rowText f a m).length + 2 ≤ sizeLine := Nat.le_trans (show (rowText f a m).length + 2 ≤ 10002 by omega) (by decide)
  refine ⟨_, rfl, ⟨_, rfl⟩, _, " ", rfl, rfl, by decide, hx2, fun p1 n1 => ?_⟩
  generalize hq : upd _ p1 _ = H2
  obtain ⟨s2, e2⟩ := new_facts n1 hq
  clear hq
  rw [hl2] at e2
  have b1 := I.box
  have n1b : p1 ≠ b := b1.ne n1
  have b2 := b1.same s2
  generalize rowWords f a m = W at e2 hWl hWg
  have hW1 : (W.map V.str).length = W.length := List.length_map ..
  walk_at "s"
  refine ⟨by rw [hW1]; omega, by rw [hW1]; omega, b2, fun H3 n hn s3 b3 => ?_⟩
  rw [hW1] at hn
  have e3 := s3 _ _ n1b e2
  walk_at "s"
  walk_at "new"
  rename_i p4 n4 H4 s4 e4
  have n4b : p4 ≠ b := b3.ne n4
  have b4 := b3.same s4
  have e34 := s4 _ _ e3
  walk_at "s"
  walk_at "new"
  rename_i p5 n5 H5 s5 e5
  rw [cut_to (by rw [hW1]; omega), ← List.map_take] at e5
  have n5b : p5 ≠ b := b4.ne n5
  have b5 := b4.same s5
  have e45 := s5 _ _ e4
  have e35 := s5 _ _ e34
  clear e34 e3 e4 e2
  walk_at "s"
  refine ⟨b, p4, oddW.map V.str, rfl, b5, n4b, e45, by decide, by decide, fun H6 x hx s6 b6 => ?_⟩
  obtain ⟨w', hw', rfl⟩ := List.mem_map.mp hx
  have hwg := oddW_good w' hw'
  have e56 := s6 _ _ n5b e5
  have e36 := s6 _ _ n1b e35
  clear e45 e35 e5
  walk_at "s"
  walk_at "new"
  rename_i p7 n7 H7 s7 e7
  have n7b : p7 ≠ b := b6.ne n7
  have b7 := b6.same s7
  have e57 := s7 _ _ e56
  have e37 := s7 _ _ e36
  clear e56 e36
  walk_at "s"
  refine ⟨by decide, b7, fun H8 n8 hn8 s8 b8 => ?_⟩
  have hn8' : n8 < 2 := hn8
  have e78 := s8 _ _ n7b e7
  have e58 := s8 _ _ n5b e57
  have e38 := s8 _ _ n1b e37
  clear e57 e37 e7
  walk_at "s"
  refine ⟨_, _, _, rfl, rfl, e78, by omega, by omega, ?_, ?_⟩
  · show 1 * ((n8 : Int)).toNat ≤ sizeLine
    omega
  walk_at "new"
  rename_i p9 n9 H9 s9 e9
  rw [List.flatten_replicate_singleton] at e9
  have b9 := b8.same s9
  have e59 := s9 _ _ e58
  have e39 := s9 _ _ e38
  clear e58 e38 e78
  refine ⟨_, _, _, _, rfl, rfl, e59, e9, by simp only [List.length_map, List.length_take, List.length_replicate]; omega, fun pa na => ?_⟩
  generalize hq : upd _ pa _ = Ha
  obtain ⟨sa, ea⟩ := new_facts na hq
  clear hq
  have nab : pa ≠ b := b9.ne na
  have ba := b9.same sa
  have e3a := sa _ _ e39
  clear e59 e39 e9
  walk_at "s"
  refine ⟨by decide, ba, fun Hb nb hnb sb bb' => ?_⟩
  have hnb' : nb < 2 := hnb
  have eab := sb _ _ nab ea
  have e3b := sb _ _ n1b e3a
  clear e3a ea
  walk_at "s"
  rw [show (n : Int) + (nb : Int) = ((n + nb : Nat) : Int) by omega]
  walk_at "s"
  walk_at "new"
  rename_i pc nc Hc sc ec
  rw [cut_from (by rw [hW1]; omega), ← List.map_drop] at ec
  have eac := sc _ _ eab
  have bc := bb'.same sc
  clear eab e3b
  refine ⟨_, _, _, _, rfl, rfl, eac, ec, by simp only [List.length_map, List.length_append, List.length_take, List.length_replicate, List.length_drop]; omega, fun pd nd => ?_⟩
  generalize hq : upd _ pd _ = Hd
  obtain ⟨sd, ed⟩ := new_facts nd hq
  clear hq
  have bd := bc.same sd
  have eW : W.take n ++ (List.replicate n8 w' ++ W.drop (n + nb)) = W.take n ++ List.replicate n8 w' ++ W.drop (n + nb) := (List.append_assoc ..).symm
  have ed' : Hd pd = some (.lst ((W.take n ++ List.replicate n8 w' ++ W.drop (n + nb)).map V.str)) := by
    rw [ed, List.map_append, List.map_append, List.map_replicate]
    rfl
  have good : ∀ w ∈ W.take n ++ List.replicate n8 w' ++ W.drop (n + nb), GoodW w := fun w hw => by
    rcases List.mem_append.mp hw with h | h
    · rcases List.mem_append.mp h with h | h
      · exact hWg w (List.mem_of_mem_take h)
      · rw [(List.mem_replicate.mp h).2]
        exact hwg
    · exact hWg w (List.mem_of_mem_drop h)
  have hlen : (W.take n ++ List.replicate n8 w' ++ W.drop (n + nb)).length < 100 := by
    simp only [List.length_append, List.length_take, List.length_replicate, List.length_drop]
    omega
  have hne' : W.take n ++ List.replicate n8 w' ++ W.drop (n + nb) ≠ [] := fun q => by
    have := congrArg List.length q
    simp only [List.length_append, List.length_take, List.length_replicate, List.length_drop, List.length_nil] at this
    omega
  have SB : Bx b H1 Hd := (Bx.of s2).trans (s3.trans ((Bx.of (s4.trans s5)).trans (s6.trans ((Bx.of s7).trans (s8.trans ((Bx.of (s9.trans sa)).trans (sb.trans (Bx.of (sc.trans sd)))))))))
  generalize W.take n ++ List.replicate n8 w' ++ W.drop (n + nb) = W' at ed' good hlen hne'
  have hsum : (W'.map (·.length)).sum + W'.length * (" " : Str).length ≤ 16777216 := by
    have h1 := sum_le (W'.map (·.length)) 21 (fun x hx => by
      obtain ⟨y, hy, rfl⟩ := List.mem_map.mp hx
      exact (good y hy).len)
    rw [List.length_map] at h1
    have h3 : (" " : Str).length = 1 := by decide
    rw [h3]
    omega
  refine ⟨⟨_, rfl⟩, _, rfl, ?_⟩
  refine ⟨_, _, W', rfl, rfl, Or.inl (SqL.of ed'), hsum, ?_⟩
  exact k Hd W' _ _ _ SB bd hne' good hlen
end
end My

namespace My
open PySem PySem.Spec PyProof.Rows L2
local macro_rules | `(tactic| walk_at "side") => `(tactic| first | (dsimp only; omega) | exact ⟨by omega, by omega⟩ | exact Or.inl ⟨by omega, by omega⟩ | exact Or.inr ⟨by omega, by omega⟩ | decide)
local macro_rules | `(tactic| walk_at "sq") => `(tactic| first | assumption | exact SqL.of (by assumption) | exact SqT.of (by assumption) | (refine L2.Same.seq (by assumption) ?_; walk_at "sq") | (refine L2.Same.seqT (by assumption) ?_; walk_at "sq") | exact Or.inl (by walk_at "sq") | exact Or.inr (by walk_at "sq"))
local macro_rules | `(tactic| walk_at "1") => `(tactic| first
  | refine ⟨_, rfl, iteT ?_⟩
  | refine ⟨_, rfl, iteF ?_⟩
  | refine ⟨_, rfl, ?_⟩
  | refine ⟨_, _, rfl, rfl, (by walk_at "side"), ?_⟩
  | refine ⟨_, _, rfl, rfl, ?_⟩
  | refine ⟨_, _, _, _, true, rfl, .ty _, .base (.int _), kit_ty (a := "int") (by decide +kernel), ?_⟩
  | refine ⟨_, _, _, _, false, rfl, .ty _, .base (.int _), kit_ty (a := "int") (by decide +kernel), ?_⟩
  | refine ⟨_, _, rfl, (by walk_at "sq"), ?_⟩
  | refine ⟨_, _, _, _, rfl, rfl, (by walk_at "sq"), (by first | rfl | assumption), ?_⟩
  | refine Or.inl ⟨_, _, _, _, rfl, rfl, (by walk_at "sq"), (by first | rfl | assumption), ?_⟩
  | refine Or.inr (Or.inl ⟨_, _, _, _, rfl, rfl, (by walk_at "sq"), (by first | rfl | assumption), ?_⟩)
  | refine ⟨_, _, rfl, Or.inl ⟨(by walk_at "sq"), ?_⟩⟩
  | refine ⟨rfl, ?_⟩
  | refine iteT ?_
  | refine iteF ?_
  | refine ⟨_, _, _, _, _, rfl, (by assumption), (by assumption), (by assumption), (by assumption), ?_⟩
  | refine Or.inl ⟨_, rfl, ?_⟩
  | refine Or.inr ⟨_, rfl, ?_⟩
  | refine ⟨_, _, rfl, (by walk_at "side"), ?_⟩
  | refine ⟨_, _, rfl, ?_⟩)
local macro_rules | `(tactic| walk_at "fld") => `(tactic| skip)
local macro_rules | `(tactic| walk_at "s") => `(tactic| repeat walk_at "1")
local macro_rules | `(tactic| walk_at "size") => `(tactic| first | exact Nat.le_of_ble_eq_true rfl | (simp only [List.length_map, List.length_append, List.length_cons, List.length_nil]; omega))
local macro_rules | `(tactic| walk_at "new") => `(tactic| (first | refine ⟨(by walk_at "size"), fun p hp => ?_⟩ | refine fun p hp => ?_); (generalize hq : upd _ p _ = H1); (obtain ⟨s, e⟩ := new_facts hp hq); clear hq)
local macro_rules | `(tactic| walk_at "1") => `(tactic| refine And.intro (by assumption) ?_)
local macro_rules | `(tactic| walk_at "at") => `(tactic| first | assumption | (refine My.Same.at (by assumption) ?_; walk_at "at") | (refine My.Bx.at (by assumption) (by assumption) ?_; walk_at "at"))

open TL
/-- a made row's parts -/
theorem made_parts {f a f' a' : List (Option Int)} {m m' : Int} (M : MadeOf f a m f' a' m') (P : Parts f a m) : Parts f' a' m' := by
  obtain ⟨t, b, F, S, rfl, rfl, rfl⟩ := M
  have h1 := F.fits.pos
  have h2 := F.le
  have h3 := S.le
  have h0 : 0 < a.length := List.length_pos_iff.mpr P.ne
  have lf := P.lf
  have la := P.la
  have m0 := P.m0
  have m1 := P.m1
  have hlen : (((f ++ a).drop b).take t).length = t := by
    rw [List.length_take, List.length_drop, List.length_append]
    omega
  have hmt : 0 ≤ m * (t : Int) := Int.mul_nonneg m0 (Int.natCast_nonneg t)
  refine ⟨fun e => ?_, ?_, by omega, Int.ediv_nonneg hmt (Int.natCast_nonneg _), ?_⟩
  · rw [e] at hlen
    simp at hlen
    omega
  · rw [List.length_take, List.length_append]
    omega
  · refine Int.lt_of_le_of_lt ?_ m1
    refine Int.ediv_le_of_le_mul (by omega) ?_
    exact Int.mul_le_mul_of_nonneg_left (by omega) m0
theorem due_parts {W : List Str} {f a : List (Option Int)} {m : Int} (h : dueW W = .args f a m) (hl : W.length < 400) : Parts f a m := by
  unfold dueW at h
  by_cases hF : FormW W
  · rw [if_pos hF] at h
    by_cases hw : wrongW W = none
    · rw [if_pos hw] at h
      injection h with e1 e2 e3
      subst e1 e2 e3
      obtain ⟨h1, h2⟩ := again_len hF
      have h3 := first_len hF
      have h4 := hF.2.2.2.1
      have h5 := more_in hF
      exact ⟨h2, by omega, by omega, h5.1, h5.2⟩
    · rw [if_neg hw] at h
      cases h
  · rw [if_neg hF] at h
    cases h
/-- what is due, and what is told -/
inductive DueV (C : Addr) (H : Hp) : V → V → Prop where
  | str (x : Str) : DueV C H (.str x) (.str x)
  | row {p q : Addr} {f a f' a' : List (Option Int)} {m m' : Int} (h : ToldAt H p f a m) (r : RowAt C H q f' a' m') (P : Parts f a m) (M : MadeOf f a m f' a' m') : DueV C H (.ref p) (.ref q)
theorem DueV.same {C : Addr} {H H' : Hp} {v u : V} (h : DueV C H v u) (s : Same H H') : DueV C H' v u := by
  cases h with
  | str x => exact .str x
  | row h r P M => exact .row (s.told h) (s.row r) P M
/-- a slot with that -/
def DueS (C : Addr) (H : Hp) (x y : Option V) : Prop := ∃ v u, x = some v ∧ y = some u ∧ DueV C H v u
section
variable {P : Program} {w : World} {K : PySem.W.Frag} {mg : Str → Option Value} {base : Heap} {C D U : Addr} {fa : Addr} {cdv : Value} {A : Around} {outer : List Env} {s : Shared} {H : Hp} {E : XK}

def tDue (C : Addr) : TS := fun D σ H8 => ∃ (b pt q : Addr) (f a f1 a1 : List (Option Int)) (m m1 : Int) (t bb : Nat) (W : List Str) (y0 y1 y3 y7 y8 y9 y10 y12 y13 y14 : Option V), σ = [y0, y1, some (.ref b), y3, some (.ref pt), some (.ref q), some (.str (rowText f a m)), y7, y8, y9, y10, some (.str (Txt.join " " W)), y12, y13, y14] ∧ InB C b pt q f a f1 a1 m m1 t bb H8 ∧ W ≠ [] ∧ (∀ w ∈ W, GoodW w) ∧ W.length < 100 ∧
  ∀ H' z12 z13, Same H8 H' → DueS C H' z12 z13 → D.nx [y0, y1, some (.ref b), y3, some (.ref pt), some (.ref q), some (.str (rowText f a m)), y7, y8, y9, y10, some (.str (Txt.join " " W)), z12, z13, y14] H'
set_option maxHeartbeats 8000000 in
theorem blk_due (o_law_due : Own P w K mg base "_law_due" 2 ["line"] spDue) (o_law_heard : Own P w K mg base "_law_heard" 7 ["line"] (spHeard C)) (hr : Room 9 (A.deeper (envOfC "law" (defScope s_law) s.heap.objs.size fa cdv))) :
    PS (cxOf CX0 P w K mg base ["script", "k", "box", "turn", "told", "made", "line", "more", "words", "at", "odd", "bent", "due", "told_by", "n"] "law" (defScope s_law) fa cdv A outer s H E).nox (nth moreBody 5) (tDue C) := by
  refine ps_pre (ps_asg (pe_tup (pa_cons (pe_own o_law_due (hr.mono (by decide)) (pa_cons (pv 11) pa_nil)) (pa_cons (pe_own o_law_heard (hr.mono (by decide)) (pa_cons (pv 11) pa_nil)) pa_nil))) (pg_tup (by rfl) (pgs_cons (pg_name (i := 12) sc_law.nd rfl (Or.inl rfl)) (pgs_cons (pg_name (i := 13) sc_law.nd rfl (Or.inr rfl)) pgs_nil)))) ?_
  rintro D σ H1 ⟨b, pt, q, f, a, f1, a1, m, m1, t, bb, W, y0, y1, y3, y7, y8, y9, y10, y12, y13, y14, rfl, I, hne, hg, hl, k⟩
  have hs : Txt.split (Txt.join " " W) " " = W := split_words hne hg
  have hj := join_len hg
  have hx : (Txt.join " " W).length ≤ 10000 := by omega
  have hA : AscW W := fun w hw => ⟨by have := (hg w hw).len; omega, (hg w hw).asc⟩
  generalize hxx : Txt.join " " W = x at *
  cases hd : dueW W with
  | text =>
    refine ⟨_, rfl, x, rfl, hx, by rw [hs]; omega, by rw [hs]; exact hA, ?_⟩
    rw [hs, hd]
    refine fun H2 s2 => ?_
    refine ⟨_, rfl, .str x, .text, rfl, Or.inr ⟨x, rfl, hx, by rw [hs]; omega, by rw [hs]; exact fun w hw => (hA w hw).1, by rw [hs, hd]⟩, fun H3 s3 => ?_⟩
    refine ⟨(by show 2 ≤ sizeLine; decide), fun p4 n4 => ?_⟩
    generalize hq : upd _ p4 _ = H4
    obtain ⟨s4, e4⟩ := new_facts n4 hq
    clear hq
    walk_at "s"
    exact k H4 _ _ (s2.trans (s3.trans s4)) ⟨_, _, rfl, rfl, .str _⟩
  | row =>
    refine ⟨_, rfl, x, rfl, hx, by rw [hs]; omega, by rw [hs]; exact hA, ?_⟩
    rw [hs, hd]
    refine fun H2 s2 => ?_
    refine ⟨_, rfl, .str x, .row, rfl, Or.inr ⟨x, rfl, hx, by rw [hs]; omega, by rw [hs]; exact fun w hw => (hA w hw).1, by rw [hs, hd]⟩, fun H3 s3 => ?_⟩
    refine ⟨(by show 2 ≤ sizeLine; decide), fun p4 n4 => ?_⟩
    generalize hq : upd _ p4 _ = H4
    obtain ⟨s4, e4⟩ := new_facts n4 hq
    clear hq
    walk_at "s"
    exact k H4 _ _ (s2.trans (s3.trans s4)) ⟨_, _, rfl, rfl, .str _⟩
  | args f2 a2 m2 =>
    refine ⟨_, rfl, x, rfl, hx, by rw [hs]; omega, by rw [hs]; exact hA, ?_⟩
    rw [hs, hd]
    refine fun H2 p pf pa s2 e2 ef ea => ?_
    refine ⟨_, rfl, .str x, .args f2 a2 m2, rfl, Or.inr ⟨x, rfl, hx, by rw [hs]; omega, by rw [hs]; exact fun w hw => (hA w hw).1, by rw [hs, hd]⟩, fun H3 q3 f3 a3 m3 s3 r3 mo3 => ?_⟩
    refine ⟨(by show 2 ≤ sizeLine; decide), fun p4 n4 => ?_⟩
    generalize hq : upd _ p4 _ = H4
    obtain ⟨s4, e4⟩ := new_facts n4 hq
    clear hq
    walk_at "s"
    exact k H4 _ _ (s2.trans (s3.trans s4)) ⟨_, _, rfl, rfl, (DueV.row (C := C) ⟨pf, pa, s3 _ _ e2, s3 _ _ ef, s3 _ _ ea⟩ r3 (due_parts hd (by omega)) mo3).same s4⟩
def tCheck (C : Addr) : TS := fun D σ H8 => ∃ (b pt q : Addr) (f a f1 a1 : List (Option Int)) (m m1 : Int) (t bb : Nat) (y0 y1 y3 y7 y8 y9 y10 y11 y12 y13 y14 : Option V), σ = [y0, y1, some (.ref b), y3, some (.ref pt), some (.ref q), some (.str (rowText f a m)), y7, y8, y9, y10, y11, y12, y13, y14] ∧ InB C b pt q f a f1 a1 m m1 t bb H8 ∧ DueS C H8 y12 y13 ∧ ∀ H', Same H8 H' → D.nx [y0, y1, some (.ref b), y3, some (.ref pt), some (.ref q), some (.str (rowText f a m)), y7, y8, y9, y10, y11, y12, y13, y14] H'
set_option maxHeartbeats 8000000 in
theorem blk_check (T : Txt mg) (R : RowCls K C) (RI : RowIs K C) (RS : PySem.W.kitOne K (.ref C) (.type "str") = some false) (o_time : Mth P w K mg base C "time" 1 ["self", "n"] (spTime C)) (o_law_times : Own P w K mg base "_law_times" 2 ["told", "many"] spTimes) (hr : Room 9 (A.deeper (envOfC "law" (defScope s_law) s.heap.objs.size fa cdv))) :
    PS (cxOf CX0 P w K mg base ["script", "k", "box", "turn", "told", "made", "line", "more", "words", "at", "odd", "bent", "due", "told_by", "n"] "law" (defScope s_law) fa cdv A outer s H E).nox (nth moreBody 6) (tCheck C) := by
  refine ps_pre (ps_if (pt_not (pt_val (pe_callB call_isi (by rfl) T.isinstance (by decide +kernel) (pa_cons (pv 12) (pa_cons (pe_bltn (v := .ty "tuple") (by rfl) T.tuple (by decide +kernel) rfl) pa_nil)))))
                (pss_one (ps_if (pt_cmpR op_ne (pv 13) (pv 12) (nomark _))
                    (pss_one (ps_ret pe_bl))
                    pss_nil))
                (pss_one (ps_if (pt_val (pe_callB call_isi (by rfl) T.isinstance (by decide +kernel) (pa_cons (pv 13) (pa_cons (pe_bltn (v := .ty "str") (by rfl) T.str (by decide +kernel) rfl) pa_nil))))
                    (pss_one (ps_ret pe_bl))
                    (pss_one (ps_if (pt_cmpR (op_neD hr.units) (pe_lc (own := [("n", 14)]) (g := gName 14) (tt := tYes) rfl sc_law.nd (pi_range1 (by rfl) T.range (pa_cons pe_int pa_nil)) (blkOk_by (own := [("n", 14)]) (N := ["script", "k", "box", "turn", "told", "made", "line", "more", "words", "at", "odd", "bent", "due", "told_by", "n"]) (sc := defScope s_law) (by decide +kernel)) (fun _ _ _ _ _ => (pg_name (i := 14) sc_law.nd rfl (Or.inl rfl))) (fun _ _ _ _ _ => pts_nil) (fun _ _ _ _ _ => (pe_mth R.cl o_time (hr.mono (by decide)) (pv 13) (pa_cons (pv 14) pa_nil)))) (pe_own o_law_times (hr.mono (by decide)) (pa_cons (pv 12) (pa_cons pe_int pa_nil))) (nomark _))
                        (pss_one (ps_ret pe_bl))
                        pss_nil))))) ?_
  rintro D σ H1 ⟨b, pt, q, f, a, f1, a1, m, m1, t, bb, y0, y1, y3, y7, y8, y9, y10, y11, y12, y13, y14, rfl, I, B, k⟩
  obtain ⟨v, u, rfl, rfl, B⟩ := B
  have cl := R.cl
  have h1000 : 1000 < sizeLine := small1000 (Nat.le_refl _)
  cases B with
  | str x =>
    refine ⟨_, rfl, ?_⟩
    refine ⟨_, _, _, _, false, rfl, .ty _, (.base (.str x)), kit_ty (a := "str") (b := "tuple") (by decide +kernel), ?_⟩
    walk_at "s"
    rw [str_eq, decide_eq_true rfl]
    walk_at "s"
    exact k _ (Same.refl _)
  | @row p2 q2 f2 a2 f3 a3 m2 m3 hT r P2 M =>
    obtain ⟨pf, pa, e1, e2, e3⟩ := id hT
    obtain ⟨dx, qf, qa, g1, g2, g3⟩ := id r
    have P3 := made_parts M P2
    refine ⟨_, rfl, ?_⟩
    refine ⟨_, _, _, _, true, rfl, .ty _, (.base (.tup e1)), kit_ty (a := "tuple") (b := "tuple") (by decide +kernel), ?_⟩
    refine ⟨_, rfl, ?_⟩
    refine iteF ?_
    refine ⟨_, rfl, ?_⟩
    refine ⟨_, _, _, _, false, rfl, .ty _, (.base (.ins g1 RI.cl RI.ha RI.hn RI.ht RI.hm)), RS, ?_⟩
    refine ⟨_, rfl, ?_⟩
    refine iteF ?_
    have hw : ∀ n, tmR f3 a3 m3 n = tmR f2 a2 m2 n := fun n => made_times M (List.length_pos_iff.mpr P2.ne) n
    refine ⟨40, rfl, by decide, by decide, fun L nL => lc_range (lo := 0) (n := 40) (fun i H' => Same H1 H' ∧ H' L = some (.lst (((List.range i).map (tmR f2 a2 m2)).map ov))) ⟨same_upd nL, upd_same⟩ ?_ ?_⟩
    · rintro i H2 hi ⟨s2, el⟩
      have g1' := s2 _ _ g1
      have r2 := s2.row r
      rw [Int.zero_add]
      have lk : (rowF qf qa m3).lookup ("time" : Str) = none := rfl
      walk_at "s"
      refine ⟨q2, dx, _, rfl, g1', lk, ?_⟩
      walk_at "s"
      refine ⟨q2, f3, a3, m3, i, rfl, r2, P3, fun H3 s3 => ?_⟩
      rw [hw i]
      refine ⟨_, s3 _ _ el, by rw [List.length_map, List.length_map, List.length_range]; omega, (s2.trans s3).upd1 nL, ?_⟩
      rw [upd_same, List.range_succ, List.map_append, List.map_append]
      rfl
    · rintro H2 ⟨s2, el⟩
      refine ⟨_, rfl, p2, f2, a2, m2, 40, rfl, s2.told hT, P2, by decide, fun H3 q3 s3 n3 el3 => ?_⟩
      refine rd_neL _ _ (SqL.of (s3 _ _ el)) (SqL.of el3) ?_
      rw [decide_eq_true rfl]
      walk_at "s"
      exact k _ (s2.trans s3)
end
end My

namespace My
open PySem PySem.Spec PyProof.Rows L2
local macro_rules | `(tactic| walk_at "side") => `(tactic| first | (dsimp only; omega) | exact ⟨by omega, by omega⟩ | exact Or.inl ⟨by omega, by omega⟩ | exact Or.inr ⟨by omega, by omega⟩ | decide)
local macro_rules | `(tactic| walk_at "sq") => `(tactic| first | assumption | exact SqL.of (by assumption) | exact SqT.of (by assumption) | (refine L2.Same.seq (by assumption) ?_; walk_at "sq") | (refine L2.Same.seqT (by assumption) ?_; walk_at "sq") | exact Or.inl (by walk_at "sq") | exact Or.inr (by walk_at "sq"))
local macro_rules | `(tactic| walk_at "1") => `(tactic| first
  | refine ⟨_, rfl, iteT ?_⟩
  | refine ⟨_, rfl, iteF ?_⟩
  | refine ⟨_, rfl, ?_⟩
  | refine ⟨_, _, rfl, rfl, (by walk_at "side"), ?_⟩
  | refine ⟨_, _, rfl, rfl, ?_⟩
  | refine ⟨_, _, _, _, true, rfl, .ty _, .base (.int _), kit_ty (a := "int") (by decide +kernel), ?_⟩
  | refine ⟨_, _, _, _, false, rfl, .ty _, .base (.int _), kit_ty (a := "int") (by decide +kernel), ?_⟩
  | refine ⟨_, _, rfl, (by walk_at "sq"), ?_⟩
  | refine ⟨_, _, _, _, rfl, rfl, (by walk_at "sq"), (by first | rfl | assumption), ?_⟩
  | refine Or.inl ⟨_, _, _, _, rfl, rfl, (by walk_at "sq"), (by first | rfl | assumption), ?_⟩
  | refine Or.inr (Or.inl ⟨_, _, _, _, rfl, rfl, (by walk_at "sq"), (by first | rfl | assumption), ?_⟩)
  | refine ⟨_, _, rfl, Or.inl ⟨(by walk_at "sq"), ?_⟩⟩
  | refine ⟨rfl, ?_⟩
  | refine iteT ?_
  | refine iteF ?_
  | refine ⟨_, _, _, _, _, rfl, (by assumption), (by assumption), (by assumption), (by assumption), ?_⟩
  | refine Or.inl ⟨_, rfl, ?_⟩
  | refine Or.inr ⟨_, rfl, ?_⟩
  | refine ⟨_, _, rfl, (by walk_at "side"), ?_⟩
  | refine ⟨_, _, rfl, ?_⟩)
local macro_rules | `(tactic| walk_at "fld") => `(tactic| skip)
local macro_rules | `(tactic| walk_at "s") => `(tactic| repeat walk_at "1")
local macro_rules | `(tactic| walk_at "size") => `(tactic| first | exact Nat.le_of_ble_eq_true rfl | (simp only [List.length_map, List.length_append, List.length_cons, List.length_nil]; omega))
local macro_rules | `(tactic| walk_at "new") => `(tactic| (first | refine ⟨(by walk_at "size"), fun p hp => ?_⟩ | refine fun p hp => ?_); (generalize hq : upd _ p _ = H1); (obtain ⟨s, e⟩ := new_facts hp hq); clear hq)
local macro_rules | `(tactic| walk_at "1") => `(tactic| refine And.intro (by assumption) ?_)
local macro_rules | `(tactic| walk_at "at") => `(tactic| first | assumption | (refine My.Same.at (by assumption) ?_; walk_at "at") | (refine My.Bx.at (by assumption) (by assumption) ?_; walk_at "at"))

open TL
section
variable {P : Program} {w : World} {K : PySem.W.Frag} {mg : Str → Option Value} {base : Heap} {C D U : Addr} {fa : Addr} {cdv : Value} {A : Around} {outer : List Env} {s : Shared} {H : Hp} {E : XK}

def tMore (C : Addr) : TS := fun D σ H8 => ∃ (b pt q : Addr) (f a f1 a1 : List (Option Int)) (m m1 : Int) (t bb : Nat) (y0 y1 y3 y7 y8 y9 y10 y11 y12 y13 y14 : Option V), σ = [y0, y1, some (.ref b), y3, some (.ref pt), some (.ref q), some (.str (rowText f a m)), y7, y8, y9, y10, y11, y12, y13, y14] ∧ InB C b pt q f a f1 a1 m m1 t bb H8 ∧
  ∀ H' z8 z9 z10 z11 z12 z13, Bx b H8 H' → InB C b pt q f a f1 a1 m m1 t bb H' → D.nx [y0, y1, some (.ref b), y3, some (.ref pt), some (.ref q), some (.str (rowText f a m)), y7, z8, z9, z10, z11, z12, z13, y14] H'
set_option maxHeartbeats 8000000 in
theorem blk_more (T : Txt mg) (R : RowCls K C) (RI : RowIs K C) (RS : PySem.W.kitOne K (.ref C) (.type "str") = some false) (Z : RowEq K mg C) (oq : EqC P w K mg base C) (ot : StrC P w K mg base C) (RD : RdOk P w K mg base C D U)
    (o_law_take : Own P w K mg base "_law_take" 1 ["box", "many"] spTake) (o_law_pick : Own P w K mg base "_law_pick" 2 ["box", "some"] spPick) (o_law_row : Own P w K mg base "_law_row" 3 ["box", "is_low"] spRow)
    (o_law_made : Own P w K mg base "_law_made" 6 ["told"] (spMade C)) (o_law_text : Own P w K mg base "_law_text" 1 ["told"] spText) (o_law_heard : Own P w K mg base "_law_heard" 7 ["line"] (spHeard C)) (o_law_due : Own P w K mg base "_law_due" 2 ["line"] spDue)
    (o_time : Mth P w K mg base C "time" 1 ["self", "n"] (spTime C)) (o_law_times : Own P w K mg base "_law_times" 2 ["told", "many"] spTimes) (hr : Room 9 (A.deeper (envOfC "law" (defScope s_law) s.heap.objs.size fa cdv))) :
    PSs (cxOf CX0 P w K mg base ["script", "k", "box", "turn", "told", "made", "line", "more", "words", "at", "odd", "bent", "due", "told_by", "n"] "law" (defScope s_law) fa cdv A outer s H E).nox moreBody (tMore C) := by
  refine pss_pre (blk_bent (C := C) T o_law_take o_law_pick hr (pss_cons (blk_due (C := C) o_law_due o_law_heard hr) (pss_one (blk_check T R RI RS o_time o_law_times hr)))) ?_
  rintro D σ H1 ⟨b, pt, q, f, a, f1, a1, m, m1, t, bb, y0, y1, y3, y7, y8, y9, y10, y11, y12, y13, y14, rfl, I, k⟩
  refine ⟨b, pt, q, f, a, f1, a1, m, m1, t, bb, _, _, _, _, _, _, _, _, _, _, _, rfl, I, fun H2 W z8 z9 z10 s2 b2 hne hg hl => ?_⟩
  have I2 := I.bx s2 b2
  refine ⟨b, pt, q, f, a, f1, a1, m, m1, t, bb, W, _, _, _, _, _, _, _, _, _, _, rfl, I2, hne, hg, hl, fun H3 z12 z13 s3 hD => ?_⟩
  have I3 := I2.same s3
  refine ⟨b, pt, q, f, a, f1, a1, m, m1, t, bb, _, _, _, _, _, _, _, _, _, _, _, rfl, I3, hD, fun H4 s4 => ?_⟩
  exact k H4 _ _ _ _ _ _ (s2.trans (Bx.of (s3.trans s4))) (I3.same s4)
def tFor (C : Addr) : TS := fun D σ H8 => ∃ (b pt q : Addr) (f a f1 a1 : List (Option Int)) (m m1 : Int) (t bb : Nat) (y0 y1 y3 y7 y8 y9 y10 y11 y12 y13 y14 : Option V), σ = [y0, y1, some (.ref b), y3, some (.ref pt), some (.ref q), some (.str (rowText f a m)), y7, y8, y9, y10, y11, y12, y13, y14] ∧ InB C b pt q f a f1 a1 m m1 t bb H8 ∧
  ∀ H' z7 z8 z9 z10 z11 z12 z13, Bx b H8 H' → InB C b pt q f a f1 a1 m m1 t bb H' → D.nx [y0, y1, some (.ref b), y3, some (.ref pt), some (.ref q), some (.str (rowText f a m)), z7, z8, z9, z10, z11, z12, z13, y14] H'
set_option maxHeartbeats 8000000 in
theorem blk_s4 (T : Txt mg) (R : RowCls K C) (RI : RowIs K C) (RS : PySem.W.kitOne K (.ref C) (.type "str") = some false) (Z : RowEq K mg C) (oq : EqC P w K mg base C) (ot : StrC P w K mg base C) (RD : RdOk P w K mg base C D U)
    (o_law_take : Own P w K mg base "_law_take" 1 ["box", "many"] spTake) (o_law_pick : Own P w K mg base "_law_pick" 2 ["box", "some"] spPick) (o_law_row : Own P w K mg base "_law_row" 3 ["box", "is_low"] spRow)
    (o_law_made : Own P w K mg base "_law_made" 6 ["told"] (spMade C)) (o_law_text : Own P w K mg base "_law_text" 1 ["told"] spText) (o_law_heard : Own P w K mg base "_law_heard" 7 ["line"] (spHeard C)) (o_law_due : Own P w K mg base "_law_due" 2 ["line"] spDue)
    (o_time : Mth P w K mg base C "time" 1 ["self", "n"] (spTime C)) (o_law_times : Own P w K mg base "_law_times" 2 ["told", "many"] spTimes) (hr : Room 9 (A.deeper (envOfC "law" (defScope s_law) s.heap.objs.size fa cdv))) :
    PS (cxOf CX0 P w K mg base ["script", "k", "box", "turn", "told", "made", "line", "more", "words", "at", "odd", "bent", "due", "told_by", "n"] "law" (defScope s_law) fa cdv A outer s H E).nox (nth turnBody 4) (tFor C) := by
  refine ps_pre (ps_for PassesOwn.never rfl (pi_range1 (by rfl) T.range (pa_cons pe_int pa_nil)) (pg_name (i := 7) sc_law.nd rfl (Or.inl rfl)) (blk_more T R RI RS Z oq ot RD o_law_take o_law_pick o_law_row o_law_made o_law_text o_law_heard o_law_due o_time o_law_times hr)) ?_
  rintro D σ H1 ⟨b, pt, q, f, a, f1, a1, m, m1, t, bb, y0, y1, y3, y7, y8, y9, y10, y11, y12, y13, y14, rfl, I, k⟩
  refine ⟨5, rfl, by decide, by decide, for_range (lo := 0) (n := 5) (fun i σ H' => ∃ z7 z8 z9 z10 z11 z12 z13, σ = [y0, y1, some (.ref b), y3, some (.ref pt), some (.ref q), some (.str (rowText f a m)), z7, z8, z9, z10, z11, z12, z13, y14] ∧ Bx b H1 H' ∧ InB C b pt q f a f1 a1 m m1 t bb H') ⟨_, _, _, _, _, _, _, rfl, Bx.of (Same.refl _), I⟩ ?_ ?_⟩
  · rintro i σ H2 hi ⟨z7, z8, z9, z10, z11, z12, z13, rfl, S2, I2⟩
    refine ⟨b, pt, q, f, a, f1, a1, m, m1, t, bb, _, _, _, _, _, _, _, _, _, _, _, rfl, I2, fun H3 w8 w9 w10 w11 w12 w13 s3 I3 => ?_⟩
    exact ⟨_, _, _, _, _, _, _, rfl, S2.trans s3, I3⟩
  · rintro σ H2 ⟨z7, z8, z9, z10, z11, z12, z13, rfl, S2, I2⟩
    exact k H2 _ _ _ _ _ _ _ S2 I2
def tTurn : TS := fun D σ H1 => ∃ (b : Addr) (j : Nat) (y0 y1 y4 y5 y6 y7 y8 y9 y10 y11 y12 y13 y14 : Option V), σ = [y0, y1, some (.ref b), some (.int (j : Nat)), y4, y5, y6, y7, y8, y9, y10, y11, y12, y13, y14] ∧ BoxAt H1 b ∧
  ∀ (z4 z5 z6 z7 z8 z9 z10 z11 z12 z13 : Option V) (H' : Hp), Bx b H1 H' → BoxAt H' b → D.nx [y0, y1, some (.ref b), some (.int (j : Nat)), z4, z5, z6, z7, z8, z9, z10, z11, z12, z13, y14] H'
set_option maxHeartbeats 8000000 in
theorem blk_turn (T : Txt mg) (R : RowCls K C) (RI : RowIs K C) (RS : PySem.W.kitOne K (.ref C) (.type "str") = some false) (Z : RowEq K mg C) (oq : EqC P w K mg base C) (ot : StrC P w K mg base C) (RD : RdOk P w K mg base C D U)
    (o_law_take : Own P w K mg base "_law_take" 1 ["box", "many"] spTake) (o_law_pick : Own P w K mg base "_law_pick" 2 ["box", "some"] spPick) (o_law_row : Own P w K mg base "_law_row" 3 ["box", "is_low"] spRow)
    (o_law_made : Own P w K mg base "_law_made" 6 ["told"] (spMade C)) (o_law_text : Own P w K mg base "_law_text" 1 ["told"] spText) (o_law_heard : Own P w K mg base "_law_heard" 7 ["line"] (spHeard C)) (o_law_due : Own P w K mg base "_law_due" 2 ["line"] spDue)
    (o_time : Mth P w K mg base C "time" 1 ["self", "n"] (spTime C)) (o_law_times : Own P w K mg base "_law_times" 2 ["told", "many"] spTimes) (hr : Room 9 (A.deeper (envOfC "law" (defScope s_law) s.heap.objs.size fa cdv))) :
    PSs (cxOf CX0 P w K mg base ["script", "k", "box", "turn", "told", "made", "line", "more", "words", "at", "odd", "bent", "due", "told_by", "n"] "law" (defScope s_law) fa cdv A outer s H E).nox turnBody tTurn := by
  refine pss_pre (pss_cons (blk_s0 o_law_row hr) (pss_cons (blk_s1 o_law_made o_law_text hr) (pss_cons (blk_s2 T R Z oq ot o_law_text o_law_heard hr) (pss_cons (blk_s3 T Z oq ot RD hr) (pss_cons (blk_s4 T R RI RS Z oq ot RD o_law_take o_law_pick o_law_row o_law_made o_law_text o_law_heard o_law_due o_time o_law_times hr) (pss_cons (blk_s5 (C := C) o_law_heard hr) (pss_one (blk_s6 (C := C) o_law_heard hr)))))))) ?_
  rintro D σ H1 ⟨b, j, y0, y1, y4, y5, y6, y7, y8, y9, y10, y11, y12, y13, y14, rfl, hb, k⟩
  refine ⟨b, j, _, _, _, _, _, _, _, _, _, _, _, _, _, rfl, hb, fun H2 pt f a m s2 b2 T2 G => ?_⟩
  refine ⟨b, pt, f, a, m, _, _, _, _, _, _, _, _, _, _, _, _, _, rfl, b2, T2, G, fun H3 q f1 a1 m1 t bb s3 I3 => ?_⟩
  refine ⟨b, pt, q, f, a, f1, a1, m, m1, t, bb, _, _, _, _, _, _, _, _, _, _, _, rfl, I3, fun H4 s4 => ?_⟩
  have I4 := I3.same s4
  refine ⟨b, pt, q, f, a, f1, a1, m, m1, t, bb, _, _, _, _, _, _, _, _, _, _, _, rfl, I4, fun H5 s5 => ?_⟩
  have I5 := I4.same s5
  refine ⟨b, pt, q, f, a, f1, a1, m, m1, t, bb, _, _, _, _, _, _, _, _, _, _, _, rfl, I5, fun H6 z7 z8 z9 z10 z11 z12 z13 s6 I6 => ?_⟩
  refine ⟨b, pt, q, f, a, f1, a1, m, m1, t, bb, _, _, _, _, _, _, _, _, _, _, _, rfl, I6, fun H7 s7 => ?_⟩
  have I7 := I6.same s7
  refine ⟨b, pt, q, f, a, f1, a1, m, m1, t, bb, _, _, _, _, _, _, _, _, _, _, _, rfl, I7, fun H8 z10 s8 => ?_⟩
  have I8 := I7.same s8
  exact k _ _ _ _ _ _ _ _ _ _ H8 (s2.trans ((Bx.of (s3.trans (s4.trans s5))).trans (s6.trans (Bx.of (s7.trans s8))))) I8.box
end
section
variable {P : Program} {w : World} {K : PySem.W.Frag} {mg : Str → Option Value} {base : Heap} {C D U : Addr}
theorem due_args {W : List Str} {f a : List (Option Int)} {m : Int} (h : FormW W) (h1 : firstW W = f) (h2 : againW W = a) (h3 : moreW W = m) (O : OkRow f a m) : dueW W = .args f a m := by
  have hw : wrongW W = none := by
    unfold wrongW
    rw [h1, h2, h3]
    exact O.word.2
  unfold dueW
  rw [if_pos h, if_pos hw, h1, h2, h3]
theorem made_none {f' a' : List (Option Int)} {m' : Int} (M : MadeOf [none, none] [none, none] 0 f' a' m') : f' = [] ∧ a' = [none] ∧ m' = 0 := by
  obtain ⟨t, b, F, S, rfl, rfl, rfl⟩ := M
  have h1 := F.fits.pos
  have fit : Fits [none, none] 0 1 := ⟨by decide, by decide, by decide, by decide⟩
  have ht : t = 1 := by
    have := F.least 1
    by_cases z : 1 < t
    · exact absurd fit (this z)
    · omega
  subst ht
  have hb : b = 0 := by
    rcases S.least with z | z
    · exact z
    · by_cases zb : b = 0
      · exact zb
      · exfalso
        apply z
        have hle : b ≤ 2 := S.le
        have hb12 : b = 1 ∨ b = 2 := by omega
        rcases hb12 with rfl | rfl <;> rfl
  subst hb
  exact ⟨rfl, rfl, rfl⟩
def spLaw (K : PySem.W.Frag) : Sp := fun vs H Q _ => ∃ (a : Addr) (ns : List Int), vs = [.ref a] ∧ SqL K H a (ns.map V.int) ∧ ns.length ≤ 63 ∧ ∀ H', Q (.bl true) H'
set_option maxHeartbeats 8000000 in
theorem ok_law {fa : Addr} {fd : FuncData} (F : Fun K "law" "law" s_law fa fd) (T : Txt mg) (R : RowCls K C) (RI : RowIs K C) (RS : PySem.W.kitOne K (.ref C) (.type "str") = some false) (Z : RowEq K mg C) (oq : EqC P w K mg base C) (ot : StrC P w K mg base C) (RD : RdOk P w K mg base C D U)
    (o_law_take : Own P w K mg base "_law_take" 1 ["box", "many"] spTake) (o_law_pick : Own P w K mg base "_law_pick" 2 ["box", "some"] spPick) (o_law_row : Own P w K mg base "_law_row" 3 ["box", "is_low"] spRow)
    (o_law_made : Own P w K mg base "_law_made" 6 ["told"] (spMade C)) (o_law_text : Own P w K mg base "_law_text" 1 ["told"] spText) (o_law_heard : Own P w K mg base "_law_heard" 7 ["line"] (spHeard C)) (o_law_due : Own P w K mg base "_law_due" 2 ["line"] spDue)
    (o_time : Mth P w K mg base C "time" 1 ["self", "n"] (spTime C)) (o_law_times : Own P w K mg base "_law_times" 2 ["told", "many"] spTimes) (o_law_box : Own P w K mg base "_law_box" 1 ["script", "k"] (spBox K)) (o_empty : Own P w K mg base "empty" 6 [] (spOne C none)) : FnOk P w K mg base CX0 10 fa fd ["script"] (spLaw K) := by
  obtain ⟨fR, fdR, pR, FR, SR, bR, mR⟩ := id RD.ex
  refine F.ok sc_law (fun vs H Q E h => ?_) (fun cdv A outer s H vs Q E hr h => ?_)
  · obtain ⟨_, _, rfl, _⟩ := h
    rfl
  · obtain ⟨a, ns, rfl, hS, hlen, k⟩ := h
    have h1000 : 1000 < sizeLine := small1000 (Nat.le_refl _)
    refine ⟨_, (pss_cons (ps_for PassesOwn.never rfl (pi_range1 (by rfl) T.range (pa_cons (pe_callB (call_max2 rfl) (by rfl) T.max (by decide +kernel) (pa_cons pe_int (pa_cons (pe_callB (call_min2 rfl) (by rfl) T.min (by decide +kernel) (pa_cons pe_int (pa_cons (pe_callB call_len_seq (by rfl) T.len PySem.boot_len (pa_cons (pv 0) pa_nil)) pa_nil))) pa_nil))) pa_nil)) (pg_name (i := 1) sc_law.nd rfl (Or.inl rfl))
    (pss_cons (ps_set (i := 2) sc_law.nd rfl (Or.inl rfl) (pe_own o_law_box (hr.mono (by decide)) (pa_cons (pv 0) (pa_cons (pv 1) pa_nil))))
      (pss_one (ps_for PassesOwn.never rfl (pi_range1 (by rfl) T.range (pa_cons pe_int pa_nil)) (pg_name (i := 3) sc_law.nd rfl (Or.inl rfl))
        (blk_turn T R RI RS Z oq ot RD o_law_take o_law_pick o_law_row o_law_made o_law_text o_law_heard o_law_due o_time o_law_times hr)))))
  (pss_one (ps_ret (pe_and (pe_cmpR op_eq (pe_callTy (call_strC ot (hr.mono (by decide))) (by rfl) T.str (by decide +kernel) (pa_cons (pe_own0 o_empty (hr.mono (by decide))) pa_nil)) pe_str (nomark _)) (pe_one (pe_cmpR (op_eqC oq Z (hr.mono (by decide))) (pe_smeth (pe_glob (v := .ref C) (by rfl) mR rfl) SR FR (hr.mono (by decide)) bR (fun σ => passAt takes0 σ) (pa_cons pe_str pa_nil)) (pe_own0 o_empty (hr.mono (by decide))) (nomark _))))))), ?_⟩
    walk_at "s"
    have hN : 1 ≤ (if (if ((ns.map V.int).length : Int) < 4 then ((ns.map V.int).length : Int) else 4) > 1 then (if ((ns.map V.int).length : Int) < 4 then ((ns.map V.int).length : Int) else 4) else 1) ∧ (if (if ((ns.map V.int).length : Int) < 4 then ((ns.map V.int).length : Int) else 4) > 1 then (if ((ns.map V.int).length : Int) < 4 then ((ns.map V.int).length : Int) else 4) else 1) ≤ 4 := by
      split <;> split at * <;> omega
    generalize (if (if ((ns.map V.int).length : Int) < 4 then ((ns.map V.int).length : Int) else 4) > 1 then (if ((ns.map V.int).length : Int) < 4 then ((ns.map V.int).length : Int) else 4) else 1) = N at hN ⊢
    refine ⟨by omega, by omega, for_range (lo := 0) (n := N.toNat) (fun i σ H' => ∃ y1 y2 y3 y4 y5 y6 y7 y8 y9 y10 y11 y12 y13 y14, σ = [some (.ref a), y1, y2, y3, y4, y5, y6, y7, y8, y9, y10, y11, y12, y13, y14] ∧ Same H H')
      ⟨none, none, none, none, none, none, none, none, none, none, none, none, none, none, rfl, Same.refl _⟩ ?_ ?_⟩
    · rintro i σ H0 hi ⟨y1, y2, y3, y4, y5, y6, y7, y8, y9, y10, y11, y12, y13, y14, rfl, S0⟩
      rw [Int.zero_add]
      walk_at "s"
      refine ⟨a, ns, i, rfl, S0.seq hS, hlen, fun H1 b s1 nb hb1 => ?_⟩
      refine ⟨5, rfl, by decide, by decide, for_range (lo := 0) (n := 5) (fun j σ H' => ∃ y3 y4 y5 y6 y7 y8 y9 y10 y11 y12 y13, σ = [some (.ref a), some (.int (i : Nat)), some (.ref b), y3, y4, y5, y6, y7, y8, y9, y10, y11, y12, y13, y14] ∧ Same H0 H' ∧ BoxAt H' b) ⟨_, _, _, _, _, _, _, _, _, _, _, rfl, s1, hb1⟩ ?_ ?_⟩
      · rintro j σ H2 hj ⟨y3, y4, y5, y6, y7, y8, y9, y10, y11, y12, y13, rfl, S2, hb2⟩
        rw [Int.zero_add]
        refine ⟨b, j, _, _, _, _, _, _, _, _, _, _, _, _, _, rfl, hb2, fun z4 z5 z6 z7 z8 z9 z10 z11 z12 z13 H' B' hb' => ?_⟩
        exact ⟨_, _, _, _, _, _, _, _, _, _, _, rfl, B'.same S2 nb, hb'⟩
      · rintro σ H2 ⟨y3, y4, y5, y6, y7, y8, y9, y10, y11, y12, y13, rfl, S2, hb2⟩
        exact ⟨_, _, _, _, _, _, _, _, _, _, _, _, _, _, rfl, S0.trans S2⟩
    · rintro σ H0 ⟨y1, y2, y3, y4, y5, y6, y7, y8, y9, y10, y11, y12, y13, y14, rfl, S0⟩
      have sm : Small [] [none] 0 := ⟨by decide, by decide, fun x hx i e => (by
        rw [List.nil_append] at hx
        rw [List.mem_singleton.mp hx] at e
        cases e), by decide⟩
      refine ⟨rfl, fun H1 q1 s1 n1 r1 => ?_⟩
      obtain ⟨d1, g1, h1, u1, _, _⟩ := id r1
      refine ⟨q1, d1, _, rfl, u1, q1, [], [none], 0, rfl, r1, sm, fun H2 s2 => ⟨_, rfl, ?_⟩⟩
      have r2 := s2.row r1
      walk_at "s"
      refine ⟨_, _, rfl, line_of (W := ["-", "-", "|", "-", "-", "+", "0"]) (by decide +kernel) (by simp) ?_ (by decide) (due_args (f := [none, none]) (a := [none, none]) (m := 0) (by decide +kernel) (by decide +kernel) (by decide +kernel) (by decide +kernel) ⟨rfl, rfl, (fun z => nomatch z), Or.inr ⟨rfl, rfl, Or.inr rfl, rfl⟩⟩), fun H3 q3 f3 a3 m3 s3 r3 mo => ?_⟩
      · intro w hw
        simp only [List.mem_cons, List.not_mem_nil, or_false] at hw
        rcases hw with rfl | rfl | rfl | rfl | rfl | rfl | rfl <;> exact ⟨by decide, by decide, by decide⟩
      obtain ⟨rfl, rfl, rfl⟩ := made_none mo
      refine ⟨rfl, fun H4 q4 s4 n4 r4 => ?_⟩
      refine rd_eqRow Z (s4.row r3) r4 ?_
      rw [decide_eq_true ⟨rfl, rfl, rfl⟩]
      exact k _
end
end My

set_option linter.all false
namespace My
open PySem PySem.Spec PyProof.Rows L2
section
variable {K : PySem.W.Frag} {h : Heap} {mg : Str → Option Value}
theorem df_mk {x : Str} {st : Stmt} {ps : List Str} {f : Addr} {oc : Value} {od an : Option Addr} {osl : Array (Option Value)} {kV doc pm cdv ct : Value} (X : K.In h) (G : h.Ns mainGlobals mg)
    (a : PySem.W.nsIn K mainGlobals x = some (some (.ref f)))
    (l : K.lookup f = some ⟨oc, od, .func (PySem.W.fnOf x x (defArgs st) (defBody st) (defScope st) .none kV doc pm an cdv ct), osl⟩) (c : PySem.W.codeIn K cdv x = true) (k : PySem.W.keepIn K (.ref f) = true)
    (hb : ∀ (kV doc pm : Value) (an : Option Addr) (cdv ct : Value) (us : List Value), us.length = ps.length → bindArgs (PySem.W.fnOf x x (defArgs st) (defBody st) (defScope st) .none kV doc pm an cdv ct) ⟨us, []⟩ = pure (ps.zip us)) : Df K mg x st ps :=
  ⟨f, _, fun_mk l c k, PySem.W.mg_of X G a, (fun_mk l c k).binds hb⟩
/-- a method of the class -/
structure DfM (K : PySem.W.Frag) (C : Addr) (x qual : Str) (st : Stmt) (ps : List Str) : Prop where
  ex : ∃ f fd, Fun K x qual st f fd ∧ Meth K C x f ∧ Binds K fd ps []
theorem dfm_mk {C : Addr} {x qual : Str} {st : Stmt} {ps : List Str} {f : Addr} {oc : Value} {od an : Option Addr} {osl : Array (Option Value)} {kV doc pm cdv ct : Value}
    (a : PySem.W.findIn K (.ref C) x = some (some (.ref f))) (i : PySem.W.isFn K (.ref f) = true)
    (l : K.lookup f = some ⟨oc, od, .func (PySem.W.fnOf x qual (defArgs st) (defBody st) (defScope st) .none kV doc pm an cdv ct), osl⟩) (c : PySem.W.codeIn K cdv qual = true) (k : PySem.W.keepIn K (.ref f) = true)
    (hb : ∀ (kV doc pm : Value) (an : Option Addr) (cdv ct : Value) (us : List Value), us.length = ps.length → bindArgs (PySem.W.fnOf x qual (defArgs st) (defBody st) (defScope st) .none kV doc pm an cdv ct) ⟨us, []⟩ = pure (ps.zip us)) : DfM K C x qual st ps :=
  ⟨f, _, fun_mk l c k, ⟨a, i, k⟩, (fun_mk l c k).binds hb⟩
/-- the class of rows with its __init__, which has one default -/
structure DfI (K : PySem.W.Frag) (mg : Str → Option Value) (C : Addr) : Prop where
  ex : ∃ f fd ds, FunD K "__init__" "Row.__init__" (defArgs s_Row_init) (defBody s_Row_init) (defScope s_Row_init) [.int 0] [] f fd ∧ Mk K C f ∧ mg "Row" = some (.ref C) ∧ Binds K fd ["self", "first", "again", "more"] [] ∧ Binds K fd ["self", "first", "again", "more"] ds ∧ Vals [.int 0] ds
theorem dfi_mk {C Td : Addr} {u : Value} {f : Addr} {oc : Value} {od an : Option Addr} {osl : Array (Option Value)} {kV doc pm cdv ct : Value} {o : Obj} {n : Nat} (X : K.In h) (G : h.Ns mainGlobals mg)
    (aC : PySem.W.nsIn K mainGlobals "Row" = some (some (.ref C))) (a : PySem.W.findIn K (.ref C) "__init__" = some (some (.ref f))) (i : PySem.W.isFn K (.ref f) = true) (mk : PySem.W.makesIn K C = true) (kc : PySem.W.keepIn K (.ref C) = true)
    (l : K.lookup f = some ⟨oc, od, .func (PySem.W.fnOf "__init__" "Row.__init__" (defArgs s_Row_init) (defBody s_Row_init) (defScope s_Row_init) (.ref Td) kV doc pm an cdv ct), osl⟩) (lT : K.lookup Td = some o) (oT : o.data = .seq [u].toArray n) (ru : RelV (.int 0) u)
    (c : PySem.W.codeIn K cdv "Row.__init__" = true) (k : PySem.W.keepIn K (.ref f) = true) : DfI K mg C := by
  have F : FunD K "__init__" "Row.__init__" (defArgs s_Row_init) (defBody s_Row_init) (defScope s_Row_init) [.int 0] [] f (PySem.W.fnOf "__init__" "Row.__init__" (defArgs s_Row_init) (defBody s_Row_init) (defScope s_Row_init) (.ref Td) kV doc pm an cdv ct) :=
    ⟨⟨oc, od, .ref Td, kV, doc, pm, an, cdv, ct, osl, rfl, l, c, Or.inr ⟨by simp, Td, o, [u], n, rfl, lT, oT, .cons ru .nil⟩, Or.inl rfl⟩, k⟩
  obtain ⟨ds, v, b⟩ := F.binds1 (ps := ["self", "first", "again", "more"]) 4 1 (by simp) (by simp) (fun _ _ _ _ _ _ _ us its hl h1 => match us, hl, its, h1 with | [_, _, _, _], _, [_], _ => ⟨_, rfl, rfl⟩)
  cases v
  obtain ⟨ds1, v1, b1⟩ := F.binds1 (ps := ["self", "first", "again", "more"]) 3 0 (by simp) (by simp) (fun _ _ _ _ _ _ _ us its hl h1 => match us, hl, its, h1 with | [_, _, _], _, [_], _ => ⟨_, rfl, rfl⟩)
  exact ⟨f, _, ds1, F, ⟨mk, a, i, kc⟩, PySem.W.mg_of X G aC, b, b1, v1⟩
/-- the class of the error with its __init__ -/
structure DfE (K : PySem.W.Frag) (mg : Str → Option Value) (D : Addr) : Prop where
  ex : ∃ fI fd, OexC K D ∧ PySem.W.findIn K (.ref D) "__init__" = some (some (.ref fI)) ∧ PySem.W.typeIn K (.ref fI) = some (.type "function") ∧ Fun K "__init__" "InvalidRow.__init__" s_IR_init fI fd ∧ Binds K fd ["self", "word"] [] ∧ mg "InvalidRow" = some (.ref D)
theorem dfe_mk {D W f : Addr} {nm q : Str} {N : Addr} {bs : List Value} {sn : List Str} {sub : List Value} {ab : Bool} {col : Option Bool} {dd : Option Addr} {k0 k1 k2 k3 k5 : Option Value} {oc : Value} {od an : Option Addr} {osl : Array (Option Value)} {kV doc pm cdv ct : Value} (X : K.In h) (G : h.Ns mainGlobals mg)
    (aD : PySem.W.nsIn K mainGlobals "InvalidRow" = some (some (.ref D)))
    (xL : K.lookup D = some (excClassObj nm q D N bs [.ref W, .type "ValueError", .type "Exception", .type "BaseException", .type "object"] true sn sub ab col dd k0 k1 k2 k3 k5 "ValueError.__new__"))
    (sa : PySem.W.findIn K (.ref D) "__setattr__" = some (some (.builtin "object.__setattr__"))) (eC : PySem.W.subIn K (.ref D) (.type "BaseException") = some true) (tC : PySem.W.typeIn K (.ref D) = some (.type "type")) (kC : PySem.W.keepIn K (.ref D) = true)
    (a1 : PySem.W.findIn K (.ref D) "__init__" = some (some (.ref f))) (t1 : PySem.W.typeIn K (.ref f) = some (.type "function"))
    (l : K.lookup f = some ⟨oc, od, .func (PySem.W.fnOf "__init__" "InvalidRow.__init__" (defArgs s_IR_init) (defBody s_IR_init) (defScope s_IR_init) .none kV doc pm an cdv ct), osl⟩) (c : PySem.W.codeIn K cdv "InvalidRow.__init__" = true) (k : PySem.W.keepIn K (.ref f) = true) : DfE K mg D :=
  ⟨f, _, ⟨⟨nm, q, N, bs, _, sn, sub, ab, col, dd, k0, k1, k2, k3, k5, xL, rfl⟩, sa, eC, tC, kC⟩, a1, t1, fun_mk l c k, (fun_mk (st := s_IR_init) l c k).binds (fun _ _ _ _ _ _ us hl => match us, hl with | [_, _], _ => rfl), PySem.W.mg_of X G aD⟩
/-- the class of the other error with its __init__ -/
structure DfU (K : PySem.W.Frag) (mg : Str → Option Value) (D : Addr) : Prop where
  ex : ∃ fI fd, OexC K D ∧ PySem.W.findIn K (.ref D) "__init__" = some (some (.ref fI)) ∧ PySem.W.typeIn K (.ref fI) = some (.type "function") ∧ Fun K "__init__" "InvalidText.__init__" s_IT_init fI fd ∧ Binds K fd ["self", "at"] [] ∧ mg "InvalidText" = some (.ref D)
theorem dfu_mk {D W f : Addr} {nm q : Str} {N : Addr} {bs : List Value} {sn : List Str} {sub : List Value} {ab : Bool} {col : Option Bool} {dd : Option Addr} {k0 k1 k2 k3 k5 : Option Value} {oc : Value} {od an : Option Addr} {osl : Array (Option Value)} {kV doc pm cdv ct : Value} (X : K.In h) (G : h.Ns mainGlobals mg)
    (aD : PySem.W.nsIn K mainGlobals "InvalidText" = some (some (.ref D)))
    (xL : K.lookup D = some (excClassObj nm q D N bs [.ref W, .type "ValueError", .type "Exception", .type "BaseException", .type "object"] true sn sub ab col dd k0 k1 k2 k3 k5 "ValueError.__new__"))
    (sa : PySem.W.findIn K (.ref D) "__setattr__" = some (some (.builtin "object.__setattr__"))) (eC : PySem.W.subIn K (.ref D) (.type "BaseException") = some true) (tC : PySem.W.typeIn K (.ref D) = some (.type "type")) (kC : PySem.W.keepIn K (.ref D) = true)
    (a1 : PySem.W.findIn K (.ref D) "__init__" = some (some (.ref f))) (t1 : PySem.W.typeIn K (.ref f) = some (.type "function"))
    (l : K.lookup f = some ⟨oc, od, .func (PySem.W.fnOf "__init__" "InvalidText.__init__" (defArgs s_IT_init) (defBody s_IT_init) (defScope s_IT_init) .none kV doc pm an cdv ct), osl⟩) (c : PySem.W.codeIn K cdv "InvalidText.__init__" = true) (k : PySem.W.keepIn K (.ref f) = true) : DfU K mg D :=
  ⟨f, _, ⟨⟨nm, q, N, bs, _, sn, sub, ab, col, dd, k0, k1, k2, k3, k5, xL, rfl⟩, sa, eC, tC, kC⟩, a1, t1, fun_mk l c k, (fun_mk (st := s_IT_init) l c k).binds (fun _ _ _ _ _ _ us hl => match us, hl with | [_, _], _ => rfl), PySem.W.mg_of X G aD⟩
/-- Row.read, a staticmethod -/
structure DfR (K : PySem.W.Frag) (C : Addr) : Prop where
  ex : ∃ p f fd, SMet K C "read" p f ∧ Fun K "read" "Row.read" s_Row_read f fd ∧ Binds K fd ["text"] []
theorem dfr_mk {C p f : Addr} {rest : List Value} {oc : Value} {od an : Option Addr} {osl : Array (Option Value)} {kV doc pm cdv ct : Value} (rd : PySem.W.readsIn K C (.type "type") = true)
    (ga : PySem.W.specialIn K (.ref C) "__getattribute__" = some (some (.builtin "type.__getattribute__"))) (at_ : PySem.W.findCls K (.ref C) (.type "type") "read" = some (.get (.builtin "staticmethod.__get__") (.ref p) .none (.ref C)))
    (rc : PySem.W.recIn K p "staticmethod" = some (.ref f :: rest)) (kp : PySem.W.keepIn K (.ref f) = true)
    (l : K.lookup f = some ⟨oc, od, .func (PySem.W.fnOf "read" "Row.read" (defArgs s_Row_read) (defBody s_Row_read) (defScope s_Row_read) .none kV doc pm an cdv ct), osl⟩) (c : PySem.W.codeIn K cdv "Row.read" = true) : DfR K C :=
  ⟨p, f, _, ⟨rd, ga, at_, ⟨rest, rc⟩, kp⟩, fun_mk (st := s_Row_read) l c kp, (fun_mk (st := s_Row_read) l c kp).binds (fun _ _ _ _ _ _ us hl => match us, hl with | [_], _ => rfl)⟩
theorem int_mk {n : Str} {v s : Int} {t : Tok} (e : mg n = some (.int v t)) (q : v = s) : ∃ t, mg n = some (.int s t) := ⟨t, by rw [← q]; exact e⟩
theorem str_mk {n v s : Str} {t : Tok} (e : mg n = some (.str v t)) (q : v = s) : ∃ t, mg n = some (.str s t) := ⟨t, by rw [← q]; exact e⟩
theorem kit_clno {C : Addr} {x : String} (m : PySem.W.kitMeta x = true) (s : PySem.W.subIn K (.ref C) (.type x) = some false) : PySem.W.kitOne K (.ref C) (.type x) = some false := by
  unfold PySem.W.kitOne
  rw [if_neg (fun q => by cases beq_iff_eq.mp q)]
  show (if PySem.W.kitMeta x = true then PySem.W.subIn K (.ref C) (.type x) else none) = some false
  rw [if_pos m]
  exact s
theorem rc_mk {C : Addr} (pg : PySem.W.plainGet K C Str.empty = true) (hd : PySem.W.hasDictIn K C = true) (po : PySem.W.plainOver K C = true) (sa : PySem.W.findIn K (.ref C) "__setattr__" = some (some (.builtin "object.__setattr__")))
    (nF : PySem.W.findIn K (.ref C) "first" = some none) (nA : PySem.W.findIn K (.ref C) "again" = some none) (nM : PySem.W.findIn K (.ref C) "more" = some none) : RowCls K C := ⟨⟨pg, hd, po, sa⟩, nF, nA, nM⟩
theorem ri_mk {C : Addr} (R : RowCls K C) (ha : PySem.W.findIn K (.ref C) "__class__" = some (some (.builtin "object.__class__"))) (hn : PySem.W.specialIn K (.builtin "object.__class__") "__get__" = some (some (.builtin "getset_descriptor.__get__")))
    (ht : PySem.W.takesIn K (.builtin "object.__class__") = some true) (hm : PySem.W.mroIn K C (.type "object") = some true) (l : PySem.W.subIn K (.ref C) (.type "list") = some false) (t : PySem.W.subIn K (.ref C) (.type "tuple") = some false) : RowIs K C :=
  ⟨R.cl, ha, hn, ht, hm, kit_clno (by decide +kernel) l, kit_clno (by decide +kernel) t⟩
theorem hc_mk {D U : Addr} (X : K.In h) (G : h.Ns mainGlobals mg) (hg : PySem.W.findIn K (.ref U) "__getattribute__" = some (some (.builtin "BaseException.__getattribute__"))) (hk : PySem.W.findIn K (.ref U) "__getattr__" = some none)
    (hs : PySem.W.subIn K (.ref U) (.type "BaseException") = some true) (hd : PySem.W.hasDictIn K U = true) (ha : PySem.W.findIn K (.ref U) "__class__" = some (some (.builtin "object.__class__")))
    (hn : PySem.W.specialIn K (.builtin "object.__class__") "__get__" = some (some (.builtin "getset_descriptor.__get__"))) (ht : PySem.W.takesIn K (.builtin "object.__class__") = some true) (hm : PySem.W.mroIn K U (.type "object") = some true)
    (nw : PySem.W.findIn K (.ref U) "at" = some none) (tU : PySem.W.typeIn K (.ref U) = some (.type "type")) (sU : PySem.W.subIn K (.ref U) (.ref U) = some true)
    (hsD : PySem.W.subIn K (.ref D) (.type "BaseException") = some true) (hdD : PySem.W.hasDictIn K D = true) (tD : PySem.W.typeIn K (.ref D) = some (.type "type")) (sD : PySem.W.subIn K (.ref D) (.ref D) = some true) (sDU : PySem.W.subIn K (.ref D) (.ref U) = some false)
    (gD : PySem.W.nsIn K mainGlobals "InvalidRow" = some (some (.ref D))) (gU : PySem.W.nsIn K mainGlobals "InvalidText" = some (some (.ref U))) : HeardC K mg D U :=
  ⟨⟨hg, hk, hs, hd, ha, hn, ht, hm⟩, nw, PySem.W.exm_ref hs hd tU sU, PySem.W.exm_ref hs hd tU sDU, PySem.W.exm_ref hsD hdD tD sD, PySem.W.mg_of X G gD, PySem.W.mg_of X G gU⟩
end
theorem sub_tyno {K : PySem.W.Frag} {C : Addr} {T : String} (e : fastBuiltinMro T = some [.type T, .type "object"]) : PySem.W.subIn K (.type T) (.ref C) = some false := by
  show (fastBuiltinMro T).map (·.contains (.ref C)) = some false
  rw [e]
  first
    | rfl
    | simp
theorem kit_tyno {K : PySem.W.Frag} {M : Addr} {T : String} (cM : PySem.W.isClsIn K M = true) (tM : PySem.W.typeIn K (.ref M) = some (.type "type")) (s : PySem.W.subIn K (.type T) (.ref M) = some false) : PySem.W.kitOne K (.type T) (.ref M) = some false := by
  have cM' : (PySem.W.clsIn K M).isSome = true := cM
  unfold PySem.W.kitOne
  rw [if_neg (fun q => by cases beq_iff_eq.mp q)]
  show (if ((PySem.W.clsIn K M).isSome && PySem.W.typeIn K (.ref M) == some (.type "type")) = true then PySem.W.subIn K (.type T) (.ref M) else none) = some false
  rw [if_pos (by rw [cM', tM]; rfl)]
  exact s
theorem kit_self {K : PySem.W.Frag} {M : Addr} : PySem.W.kitOne K (.ref M) (.ref M) = some true := by
  unfold PySem.W.kitOne
  rw [if_pos (by simp)]
theorem notFirst_ty {K : PySem.W.Frag} {C : Addr} {T : String} (e : fastBuiltinMro T = some [.type T, .type "object"]) : PySem.W.notFirst K C (.type T) = true := by
  unfold PySem.W.notFirst
  rw [sub_tyno e]
  simp
theorem re_mk {K : PySem.W.Frag} {mg : Str → Option Value} {C : Addr} (R : RowCls K C) (g : mg "Row" = some (.ref C)) (ha : PySem.W.findIn K (.ref C) "__class__" = some (some (.builtin "object.__class__"))) (hn : PySem.W.specialIn K (.builtin "object.__class__") "__get__" = some (some (.builtin "getset_descriptor.__get__")))
    (ht : PySem.W.takesIn K (.builtin "object.__class__") = some true) (hm : PySem.W.mroIn K C (.type "object") = some true) (ic : PySem.W.isClsIn K C = true) (tc : PySem.W.typeIn K (.ref C) = some (.type "type")) (ne : PySem.W.findIn K (.ref C) "__ne__" = some (some (.builtin "object.__ne__"))) : RowEq K mg C :=
  ⟨g, fun H a dx fs h => .base (.ins h R.cl ha hn ht hm), kit_self, kit_tyno ic tc (sub_tyno (by decide +kernel)), kit_tyno ic tc (sub_tyno (by decide +kernel)), by unfold PySem.W.notFirst; simp, notFirst_ty (by decide +kernel), notFirst_ty (by decide +kernel), ne, hm⟩
theorem all_ok {P : Program} {w : World} {K : PySem.W.Frag} {mg : Str → Option Value} {C D U fa : Addr} (disinteger : Df K mg "is_integer" s_is_integer ["value"]) (disnumber : Df K mg "is_number" s_is_number ["value"]) (dissequence : Df K mg "is_sequence" s_is_sequence ["value"]) (disnumberword : Df K mg "is_number_word" s_is_number_word ["word", "most"]) (dI : DfI K mg C) (dE : DfE K mg D) (dU : DfU K mg U) (mCtime : DfM K C "time" "Row.time" s_Row_time ["self", "n"]) (mCeq : DfM K C "__eq__" "Row.__eq__" s_Row_eq ["self", "other"]) (mCstr : DfM K C "__str__" "Row.__str__" s_Row_str ["self"]) (dR : DfR K C) (drises : Df K mg "_rises" s_rises ["things"]) (dwrongargument : Df K mg "_wrong_argument" s_wrong_argument ["first", "again", "more"]) (dshortestturn : Df K mg "_shortest_turn" s_shortest_turn ["again", "more"]) (dalllater : Df K mg "all_later" s_all_later ["things", "lasts"]) (dshortestfirst : Df K mg "_shortest_first" s_shortest_first ["things", "begin", "turn", "grow"]) (dwordof : Df K mg "_word_of" s_word_of ["thing"]) (dargumentstold : Df K mg "_arguments_told" s_arguments_told ["text"]) (disthingword : Df K mg "_is_thing_word" s_is_thing_word ["word"]) (dempty : Df K mg "empty" s_empty []) (dlawbox : Df K mg "_law_box" s_law_box ["script", "k"]) (dlawtake : Df K mg "_law_take" s_law_take ["box", "many"]) (dlawpick : Df K mg "_law_pick" s_law_pick ["box", "some"]) (dlawrow : Df K mg "_law_row" s_law_row ["box", "is_low"]) (dlawtime : Df K mg "_law_time" s_law_time ["told", "n"]) (dlawtimes : Df K mg "_law_times" s_law_times ["told", "many"]) (dlawmade : Df K mg "_law_made" s_law_made ["told"]) (dlawtext : Df K mg "_law_text" s_law_text ["told"]) (dlawisinteger : Df K mg "_law_is_integer" s_law_is_integer ["word"]) (dlawdue : Df K mg "_law_due" s_law_due ["line"]) (dlawheard : Df K mg "_law_heard" s_law_heard ["line"]) (tx : Txt mg) (gDg : ∃ t, mg "DIGITS" = some (.str "0123456789" t)) (gMd : ∃ t, mg "MOST_DIGITS" = some (.int 12 t)) (rc : RowCls K C) (gR : mg "Row" = some (.ref C)) (ha : PySem.W.findIn K (.ref C) "__class__" = some (some (.builtin "object.__class__"))) (hn : PySem.W.specialIn K (.builtin "object.__class__") "__get__" = some (some (.builtin "getset_descriptor.__get__"))) (ht : PySem.W.takesIn K (.builtin "object.__class__") = some true) (hm : PySem.W.mroIn K C (.type "object") = some true) (ic : PySem.W.isClsIn K C = true) (tc : PySem.W.typeIn K (.ref C) = some (.type "type")) (zne : PySem.W.findIn K (.ref C) "__ne__" = some (some (.builtin "object.__ne__"))) (sublist : PySem.W.subIn K (.ref C) (.type "list") = some false) (subtuple : PySem.W.subIn K (.ref C) (.type "tuple") = some false) (substr : PySem.W.subIn K (.ref C) (.type "str") = some false) (nw : PySem.W.findIn K (.ref D) "word" = some none) (na : PySem.W.findIn K (.ref U) "at" = some none) (zhc : HeardC K mg D U) {fd : FuncData} (F : Fun K "law" "law" s_law fa fd) (base : Heap) : FnOk P w K mg base CX0 10 fa fd ["script"] (spLaw K) := by
  have T := tx
  have R := rc
  have Z : RowEq K mg C := re_mk rc gR ha hn ht hm ic tc zne
  have RI : RowIs K C := ri_mk rc ha hn ht hm sublist subtuple
  have RS : PySem.W.kitOne K (.ref C) (.type "str") = some false := kit_clno (by decide +kernel) substr
  have o1 : Own P w K mg base "is_integer" 1 ["value"] spIsInt := ok_is_integer disinteger T
  have o2 : Own P w K mg base "is_number" 2 ["value"] spIsNum := ok_is_number disnumber o1
  have o3 : Own P w K mg base "is_sequence" 1 ["value"] (spIsSeq C) := ok_is_sequence dissequence T RI
  have o4 : Own P w K mg base "is_number_word" 1 ["word", "most"] spNumWord := ok_is_number_word disnumberword T gDg
  have o5 : Own P w K mg base "_rises" 2 ["things"] spRises := ok_rises drises o1
  have o6 : Own P w K mg base "_wrong_argument" 3 ["first", "again", "more"] (spWrong C) := ok_wrong dwrongargument T o2 o3 o5
  have o7 : Own P w K mg base "all_later" 1 ["things", "lasts"] (spAllLater K) := ok_all_later dalllater
  have o8 : Own P w K mg base "_shortest_turn" 2 ["again", "more"] spShortT := ok_shortest_turn dshortestturn T o7
  have o9 : Own P w K mg base "_shortest_first" 2 ["things", "begin", "turn", "grow"] spShortF := ok_shortest_first dshortestfirst o7
  have oE : ErrC P w K mg base D "InvalidRow" "word" (spErr D "word") := by
    obtain ⟨fI, fdI, h1, h2, h3, FI, h4, h5⟩ := dE.ex
    exact ⟨fI, fdI, h1, h2, h3, ok_err FI h1 nw, h4, h5⟩
  have oU : ErrC P w K mg base U "InvalidText" "at" (spErr U "at") := by
    obtain ⟨fI, fdI, h1, h2, h3, FI, h4, h5⟩ := dU.ex
    exact ⟨fI, fdI, h1, h2, h3, ok_errT FI h1 na, h4, h5⟩
  obtain ⟨f1, fd1, ds, F1, M1, mC, b1, b2, v2⟩ := dI.ex
  have RM : RowMk P w K mg base C D := ⟨f1, fd1, ok_init F1 R T oE o6 o8 o9, mC, M1, b1⟩
  have oA : Own P w K mg base "_is_thing_word" 2 ["word"] spThingWord := ok_is_thing_word disthingword gMd o4
  have oG : OwnX P w K mg base "_arguments_told" 3 ["text"] (spArgs C U) := ok_arguments_told dargumentstold T RI RS oU gMd o4 oA
  have RD : RdOk P w K mg base C D U := by
    obtain ⟨p, f, fd, S, F2, b⟩ := dR.ex
    exact ⟨f, fd, p, ok_read F2 RM oG, S, b, mC⟩
  have oTm : Mth P w K mg base C "time" 1 ["self", "n"] (spTime C) := by
    obtain ⟨f, fd, F1, M, b⟩ := mCtime.ex
    exact ⟨f, fd, ok_time F1 R T, M, b⟩
  have oq : EqC P w K mg base C := by
    obtain ⟨f, fd, F1, ⟨a, i, k⟩, b⟩ := mCeq.ex
    exact ⟨f, fd, ok_eq F1 R T Z, a, i, b⟩
  have ow : Own P w K mg base "_word_of" 1 ["thing"] spWord := ok_word_of dwordof T.str
  have ot : StrC P w K mg base C := by
    obtain ⟨f, fd, F1, ⟨a, i, k⟩, b⟩ := mCstr.ex
    exact ⟨f, fd, ok_str F1 R T.str ow, a, i, b⟩
  have oT : Own P w K mg base "_law_take" 1 ["box", "many"] spTake := ok_take dlawtake T
  have oP : Own P w K mg base "_law_pick" 2 ["box", "some"] spPick := ok_pick dlawpick T oT
  have oLt : Own P w K mg base "_law_time" 1 ["told", "n"] spTold := ok_law_time dlawtime T
  have oLs : Own P w K mg base "_law_times" 2 ["told", "many"] spTimes := ok_law_times dlawtimes T oLt
  have oLi : Own P w K mg base "_law_is_integer" 1 ["word"] spLawInt := ok_law_is_integer dlawisinteger T
  exact ok_law F T R RI RS Z oq ot RD oT oP (ok_law_row dlawrow T oT oP) (ok_law_made dlawmade RM) (ok_law_text dlawtext T) (ok_heard dlawheard zhc RD) (ok_due dlawdue T oLi) oTm oLs (ok_box dlawbox T) (ok_empty dempty RM)
theorem end_mk {P : Program} {w : World} {K : PySem.W.Frag} {h : Heap} {mg : Str → Option Value} {C D U fa f : Addr} (X : K.In h) (G : h.Ns mainGlobals mg) (hfa : mg "law" = some (.ref fa))
    {oc : Value} {od an : Option Addr} {osl : Array (Option Value)} {kV doc pm cdv ct : Value}
    (a : PySem.W.nsIn K mainGlobals "law" = some (some (.ref f))) (l : K.lookup f = some ⟨oc, od, .func (PySem.W.fnOf "law" "law" (defArgs s_law) (defBody s_law) (defScope s_law) .none kV doc pm an cdv ct), osl⟩) (c : PySem.W.codeIn K cdv "law" = true) (k : PySem.W.keepIn K (.ref f) = true)
    (disinteger : Df K mg "is_integer" s_is_integer ["value"]) (disnumber : Df K mg "is_number" s_is_number ["value"]) (dissequence : Df K mg "is_sequence" s_is_sequence ["value"]) (disnumberword : Df K mg "is_number_word" s_is_number_word ["word", "most"]) (dI : DfI K mg C) (dE : DfE K mg D) (dU : DfU K mg U) (mCtime : DfM K C "time" "Row.time" s_Row_time ["self", "n"]) (mCeq : DfM K C "__eq__" "Row.__eq__" s_Row_eq ["self", "other"]) (mCstr : DfM K C "__str__" "Row.__str__" s_Row_str ["self"]) (dR : DfR K C) (drises : Df K mg "_rises" s_rises ["things"]) (dwrongargument : Df K mg "_wrong_argument" s_wrong_argument ["first", "again", "more"]) (dshortestturn : Df K mg "_shortest_turn" s_shortest_turn ["again", "more"]) (dalllater : Df K mg "all_later" s_all_later ["things", "lasts"]) (dshortestfirst : Df K mg "_shortest_first" s_shortest_first ["things", "begin", "turn", "grow"]) (dwordof : Df K mg "_word_of" s_word_of ["thing"]) (dargumentstold : Df K mg "_arguments_told" s_arguments_told ["text"]) (disthingword : Df K mg "_is_thing_word" s_is_thing_word ["word"]) (dempty : Df K mg "empty" s_empty []) (dlawbox : Df K mg "_law_box" s_law_box ["script", "k"]) (dlawtake : Df K mg "_law_take" s_law_take ["box", "many"]) (dlawpick : Df K mg "_law_pick" s_law_pick ["box", "some"]) (dlawrow : Df K mg "_law_row" s_law_row ["box", "is_low"]) (dlawtime : Df K mg "_law_time" s_law_time ["told", "n"]) (dlawtimes : Df K mg "_law_times" s_law_times ["told", "many"]) (dlawmade : Df K mg "_law_made" s_law_made ["told"]) (dlawtext : Df K mg "_law_text" s_law_text ["told"]) (dlawisinteger : Df K mg "_law_is_integer" s_law_is_integer ["word"]) (dlawdue : Df K mg "_law_due" s_law_due ["line"]) (dlawheard : Df K mg "_law_heard" s_law_heard ["line"]) (tx : Txt mg) (gDg : ∃ t, mg "DIGITS" = some (.str "0123456789" t)) (gMd : ∃ t, mg "MOST_DIGITS" = some (.int 12 t)) (rc : RowCls K C) (gR : mg "Row" = some (.ref C)) (ha : PySem.W.findIn K (.ref C) "__class__" = some (some (.builtin "object.__class__"))) (hn : PySem.W.specialIn K (.builtin "object.__class__") "__get__" = some (some (.builtin "getset_descriptor.__get__"))) (ht : PySem.W.takesIn K (.builtin "object.__class__") = some true) (hm : PySem.W.mroIn K C (.type "object") = some true) (ic : PySem.W.isClsIn K C = true) (tc : PySem.W.typeIn K (.ref C) = some (.type "type")) (zne : PySem.W.findIn K (.ref C) "__ne__" = some (some (.builtin "object.__ne__"))) (sublist : PySem.W.subIn K (.ref C) (.type "list") = some false) (subtuple : PySem.W.subIn K (.ref C) (.type "tuple") = some false) (substr : PySem.W.subIn K (.ref C) (.type "str") = some false) (nw : PySem.W.findIn K (.ref D) "word" = some none) (na : PySem.W.findIn K (.ref U) "at" = some none) (zhc : HeardC K mg D U) :
    ∃ fd : FuncData, (∀ (s : Shared) (v : Value), BindsTo s fd ⟨[v], []⟩ [("script", v)]) ∧ ∀ base : Heap, K.In base → base.Ns mainGlobals mg → FnOk P w K mg base CX0 10 fa fd ["script"] (spLaw K) := by
  have e := hfa.symm.trans (PySem.W.mg_of X G a)
  cases e
  exact ⟨_, fun s v => .of_eq rfl, fun base _ _ => all_ok disinteger disnumber dissequence disnumberword dI dE dU mCtime mCeq mCstr dR drises dwrongargument dshortestturn dalllater dshortestfirst dwordof dargumentstold disthingword dempty dlawbox dlawtake dlawpick dlawrow dlawtime dlawtimes dlawmade dlawtext dlawisinteger dlawdue dlawheard tx gDg gMd rc gR ha hn ht hm ic tc zne sublist subtuple substr nw na zhc (fun_mk (st := s_law) l c k) base⟩
end My

open PySem PySem.W PyProof.Rows in
set_option maxHeartbeats 0 in
theorem PySem.Challenge.cw_waitworks_k04_texts_of_rows_holds : PySem.Challenge.rw_waitworks_k04_texts_of_rows.Holds := by
  w_on; o_law; k_head; (case hw => w_witness2)
  k_fill
  refine L2.walk_of (l := PySem.Challenge.rw_waitworks_k04_texts_of_rows) (n := 63) (k := 10) (x := "script") (CX := fun _ => L2.CX0) (sp := fun w => My.spLaw _) rfl (by decide) rfl ⟨rfl, by decide, by decide⟩ (fun w h Y => PySem.W.kIn_of Y) ?F (fun _ _ a ns hl _ hS => ⟨a, ns, rfl, hS, hl, fun _ => rfl⟩) (fun _ _ _ _ _ h => h)
  case F =>
    intro w mg fa h KX G hmg
    refine' My.end_mk KX G hmg ?aL ?lL ?cL ?kL ?disinteger ?disnumber ?dissequence ?disnumberword ?dI ?dE ?dU ?mCtime ?mCeq ?mCstr ?dR ?drises ?dwrongargument ?dshortestturn ?dalllater ?dshortestfirst ?dwordof ?dargumentstold ?disthingword ?dempty ?dlawbox ?dlawtake ?dlawpick ?dlawrow ?dlawtime ?dlawtimes ?dlawmade ?dlawtext ?dlawisinteger ?dlawdue ?dlawheard ?tx ?gDg ?gMd ?rc ?gR ?ha ?hn ?ht ?hm ?ic ?tc ?zne ?sublist ?subtuple ?substr ?nw ?na ?zhc
    (case aL => k_is)
    (case lL => k_is)
    (case cL => k_is)
    (case kL => k_is)
    (case disinteger => (refine' My.df_mk KX G ?a ?l ?c ?k (fun _ _ _ _ _ _ us hl => match us, hl with | [_], _ => rfl)); (case a => k_is); (case l => k_is); (case c => k_is); (case k => k_is))
    (case disnumber => (refine' My.df_mk KX G ?a ?l ?c ?k (fun _ _ _ _ _ _ us hl => match us, hl with | [_], _ => rfl)); (case a => k_is); (case l => k_is); (case c => k_is); (case k => k_is))
    (case dissequence => (refine' My.df_mk KX G ?a ?l ?c ?k (fun _ _ _ _ _ _ us hl => match us, hl with | [_], _ => rfl)); (case a => k_is); (case l => k_is); (case c => k_is); (case k => k_is))
    (case disnumberword => (refine' My.df_mk KX G ?a ?l ?c ?k (fun _ _ _ _ _ _ us hl => match us, hl with | [_, _], _ => rfl)); (case a => k_is); (case l => k_is); (case c => k_is); (case k => k_is))
    (case dI => (refine' My.dfi_mk KX G ?aC ?a ?i ?mk ?kc ?l ?lT ?oT ⟨_, rfl⟩ ?c ?k); (case aC => k_is); (case a => k_is); (case i => k_is); (case mk => k_is); (case kc => k_is); (case l => k_is); (case lT => k_is); (case oT => rfl); (case c => k_is); (case k => k_is))
    (case dE => (refine' My.dfe_mk KX G ?aD ?xL ?sa ?eC ?tC ?kC ?a1 ?t1 ?l ?c ?k); (case aD => k_is); (case xL => k_is); (case sa => k_is); (case eC => k_is); (case tC => k_is); (case kC => k_is); (case a1 => k_is); (case t1 => k_is); (case l => k_is); (case c => k_is); (case k => k_is))
    (case dU => (refine' My.dfu_mk KX G ?aD ?xL ?sa ?eC ?tC ?kC ?a1 ?t1 ?l ?c ?k); (case aD => k_is); (case xL => k_is); (case sa => k_is); (case eC => k_is); (case tC => k_is); (case kC => k_is); (case a1 => k_is); (case t1 => k_is); (case l => k_is); (case c => k_is); (case k => k_is))
    (case mCtime => (refine' My.dfm_mk ?a ?i ?l ?c ?k (fun _ _ _ _ _ _ us hl => match us, hl with | [_, _], _ => rfl)); (case a => k_is); (case i => k_is); (case l => k_is); (case c => k_is); (case k => k_is))
    (case mCeq => (refine' My.dfm_mk ?a ?i ?l ?c ?k (fun _ _ _ _ _ _ us hl => match us, hl with | [_, _], _ => rfl)); (case a => k_is); (case i => k_is); (case l => k_is); (case c => k_is); (case k => k_is))
    (case mCstr => (refine' My.dfm_mk ?a ?i ?l ?c ?k (fun _ _ _ _ _ _ us hl => match us, hl with | [_], _ => rfl)); (case a => k_is); (case i => k_is); (case l => k_is); (case c => k_is); (case k => k_is))
    (case dR => (refine' My.dfr_mk ?srd ?sga ?sat ?src ?skp ?l ?c); (case srd => k_is); (case sga => k_is); (case sat => k_is); (case src => k_is); (case skp => k_is); (case l => k_is); (case c => k_is))
    (case drises => (refine' My.df_mk KX G ?a ?l ?c ?k (fun _ _ _ _ _ _ us hl => match us, hl with | [_], _ => rfl)); (case a => k_is); (case l => k_is); (case c => k_is); (case k => k_is))
    (case dwrongargument => (refine' My.df_mk KX G ?a ?l ?c ?k (fun _ _ _ _ _ _ us hl => match us, hl with | [_, _, _], _ => rfl)); (case a => k_is); (case l => k_is); (case c => k_is); (case k => k_is))
    (case dshortestturn => (refine' My.df_mk KX G ?a ?l ?c ?k (fun _ _ _ _ _ _ us hl => match us, hl with | [_, _], _ => rfl)); (case a => k_is); (case l => k_is); (case c => k_is); (case k => k_is))
    (case dalllater => (refine' My.df_mk KX G ?a ?l ?c ?k (fun _ _ _ _ _ _ us hl => match us, hl with | [_, _], _ => rfl)); (case a => k_is); (case l => k_is); (case c => k_is); (case k => k_is))
    (case dshortestfirst => (refine' My.df_mk KX G ?a ?l ?c ?k (fun _ _ _ _ _ _ us hl => match us, hl with | [_, _, _, _], _ => rfl)); (case a => k_is); (case l => k_is); (case c => k_is); (case k => k_is))
    (case dwordof => (refine' My.df_mk KX G ?a ?l ?c ?k (fun _ _ _ _ _ _ us hl => match us, hl with | [_], _ => rfl)); (case a => k_is); (case l => k_is); (case c => k_is); (case k => k_is))
    (case dargumentstold => (refine' My.df_mk KX G ?a ?l ?c ?k (fun _ _ _ _ _ _ us hl => match us, hl with | [_], _ => rfl)); (case a => k_is); (case l => k_is); (case c => k_is); (case k => k_is))
    (case disthingword => (refine' My.df_mk KX G ?a ?l ?c ?k (fun _ _ _ _ _ _ us hl => match us, hl with | [_], _ => rfl)); (case a => k_is); (case l => k_is); (case c => k_is); (case k => k_is))
    (case dempty => (refine' My.df_mk KX G ?a ?l ?c ?k (fun _ _ _ _ _ _ us hl => match us, hl with | [], _ => rfl)); (case a => k_is); (case l => k_is); (case c => k_is); (case k => k_is))
    (case dlawbox => (refine' My.df_mk KX G ?a ?l ?c ?k (fun _ _ _ _ _ _ us hl => match us, hl with | [_, _], _ => rfl)); (case a => k_is); (case l => k_is); (case c => k_is); (case k => k_is))
    (case dlawtake => (refine' My.df_mk KX G ?a ?l ?c ?k (fun _ _ _ _ _ _ us hl => match us, hl with | [_, _], _ => rfl)); (case a => k_is); (case l => k_is); (case c => k_is); (case k => k_is))
    (case dlawpick => (refine' My.df_mk KX G ?a ?l ?c ?k (fun _ _ _ _ _ _ us hl => match us, hl with | [_, _], _ => rfl)); (case a => k_is); (case l => k_is); (case c => k_is); (case k => k_is))
    (case dlawrow => (refine' My.df_mk KX G ?a ?l ?c ?k (fun _ _ _ _ _ _ us hl => match us, hl with | [_, _], _ => rfl)); (case a => k_is); (case l => k_is); (case c => k_is); (case k => k_is))
    (case dlawtime => (refine' My.df_mk KX G ?a ?l ?c ?k (fun _ _ _ _ _ _ us hl => match us, hl with | [_, _], _ => rfl)); (case a => k_is); (case l => k_is); (case c => k_is); (case k => k_is))
    (case dlawtimes => (refine' My.df_mk KX G ?a ?l ?c ?k (fun _ _ _ _ _ _ us hl => match us, hl with | [_, _], _ => rfl)); (case a => k_is); (case l => k_is); (case c => k_is); (case k => k_is))
    (case dlawmade => (refine' My.df_mk KX G ?a ?l ?c ?k (fun _ _ _ _ _ _ us hl => match us, hl with | [_], _ => rfl)); (case a => k_is); (case l => k_is); (case c => k_is); (case k => k_is))
    (case dlawtext => (refine' My.df_mk KX G ?a ?l ?c ?k (fun _ _ _ _ _ _ us hl => match us, hl with | [_], _ => rfl)); (case a => k_is); (case l => k_is); (case c => k_is); (case k => k_is))
    (case dlawisinteger => (refine' My.df_mk KX G ?a ?l ?c ?k (fun _ _ _ _ _ _ us hl => match us, hl with | [_], _ => rfl)); (case a => k_is); (case l => k_is); (case c => k_is); (case k => k_is))
    (case dlawdue => (refine' My.df_mk KX G ?a ?l ?c ?k (fun _ _ _ _ _ _ us hl => match us, hl with | [_], _ => rfl)); (case a => k_is); (case l => k_is); (case c => k_is); (case k => k_is))
    (case dlawheard => (refine' My.df_mk KX G ?a ?l ?c ?k (fun _ _ _ _ _ _ us hl => match us, hl with | [_], _ => rfl)); (case a => k_is); (case l => k_is); (case c => k_is); (case k => k_is))
    (case tx => refine' ⟨mg_none_of KX G ?_, mg_none_of KX G ?_, mg_none_of KX G ?_, mg_none_of KX G ?_, mg_none_of KX G ?_, mg_none_of KX G ?_, mg_none_of KX G ?_, mg_none_of KX G ?_, mg_none_of KX G ?_, mg_none_of KX G ?_, mg_none_of KX G ?_, mg_none_of KX G ?_, mg_none_of KX G ?_, mg_none_of KX G ?_⟩ <;> k_is)
    (case gDg => (refine' My.str_mk (mg_of KX G ?ge) ?gq); (case ge => k_is); (case gq => first | rfl | decide +kernel))
    (case gMd => (refine' My.int_mk (mg_of KX G ?ge) ?gq); (case ge => k_is); (case gq => first | rfl | decide +kernel))
    (case rc => (refine' My.rc_mk ?pg ?hd ?po ?sa ?nF ?nA ?nM); (case pg => k_is); (case hd => k_is); (case po => k_is); (case sa => k_is); (case nF => k_is); (case nA => k_is); (case nM => k_is))
    (case gR => (refine' mg_of KX G ?_); k_is)
    (case ha => k_is)
    (case hn => k_is)
    (case ht => k_is)
    (case hm => first | rfl | k_is)
    (case ic => k_is)
    (case tc => k_is)
    (case zne => k_is)
    (case sublist => first | k_is | rfl)
    (case subtuple => first | k_is | rfl)
    (case substr => first | k_is | rfl)
    (case nw => k_is)
    (case na => k_is)
    (case zhc => (refine' My.hc_mk KX G ?hg ?hk ?hs ?hd ?ha ?hn ?ht ?hm ?nw ?tU ?sU ?hsD ?hdD ?tD ?sD ?sDU ?gD ?gU); (case gD => k_is); (case gU => k_is); (case hg => k_is); (case hk => k_is); (case hs => k_is); (case hd => k_is); (case ha => k_is); (case hn => k_is); (case ht => k_is); (case hm => first | rfl | k_is); (case nw => k_is); (case tU => k_is); (case sU => first | k_is | rfl); (case hsD => k_is); (case hdD => k_is); (case tD => k_is); (case sD => first | k_is | rfl); (case sDU => first | k_is | rfl))
