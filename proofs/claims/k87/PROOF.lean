import PyProof.Rows.All
import Wide.All
import OpenK.AllK
import Wide.FinOn
import HandS.ForMost
import HandS.Codes
import HandS.IsInst
import HandS.Property
import HandS.Star
import HandS.Gcd
import HandS.Defaults
import HandS.Walk
import HandS.Deep
import HandS.Text
import HandS.Words
import HandS.Zip
import HandS.SetFor
import HandS.ExcOwn
import HandS.WordsExc
import HandS.ClsMeth
import HandS.Exc
import HandS.TryMany
import HandS.ExcInit
import HandS.ExcField
import HandS.ExcIs
import KE.KExcIs
import HandS.Lambda
import HandS.LawCells
import HandS.Conv
import HandS.MakeKwOnly
import HandS.OwnEq
import HandS.SlotsOwn
import HandS.Strs
import KE.KCallOwn
import PyProof.ReprBulk
import HandS.Ends
import HandS.EndTab
import KE.KNest
import PySem.Challenge.RW_waitworks_k87_tallies_made
set_option Elab.async false
set_option maxRecDepth 100000
set_option autoImplicit false
namespace My
open PySem PySem.Spec PyProof.Rows L2
/-! ## general: either of two readings; defs and methods as one fact each; heaps -/
section
variable {X : Cx}
/-- either of two readings of an expression -/
theorem pe_alt {e : Expr} {t1 t2 : TE} (h1 : PE X e t1) (h2 : PE X e t2) : PE X e (fun σ H Q => t1 σ H Q ∨ t2 σ H Q) :=
  ⟨fun pins s σ H Q I h => h.elim (h1.run pins s σ H Q I) (h2.run pins s σ H Q I)⟩
theorem pi_alt {g e : Expr} {t1 t2 : TI} (h1 : PI X g e t1) (h2 : PI X g e t2) : PI X g e (fun σ H R => t1 σ H R ∨ t2 σ H R) :=
  ⟨fun pins s σ H R I h => h.elim (h1.run pins s σ H R I) (h2.run pins s σ H R I)⟩
theorem pss_alt {ss : List Stmt} {t1 t2 : TS} (h1 : PSs X ss t1) (h2 : PSs X ss t2) : PSs X ss (fun D σ H => t1 D σ H ∨ t2 D σ H) :=
  ⟨fun pins s σ H D I h => h.elim (h1.run pins s σ H D I) (h2.run pins s σ H D I)⟩
end
section
variable {P : Program} {w : World} {K : PySem.W.Frag} {mg : Str → Option Value} {base : Heap}
/-- the module's name x is a def that keeps a promise -/
structure Own (P : Program) (w : World) (K : PySem.W.Frag) (mg : Str → Option Value) (base : Heap) (x : Str) (k : Nat) (ps : List Str) (sp : Sp) : Prop where
  ex : ∃ f fd, FnOk P w K mg base CX0 k f fd ps sp ∧ mg x = some (.ref f) ∧ PySem.W.keepIn K (.ref f) = true ∧ Binds K fd ps []
/-- the module's name x is the def st -/
structure Df (K : PySem.W.Frag) (mg : Str → Option Value) (x : Str) (st : Stmt) (ps : List Str) : Prop where
  ex : ∃ f fd, Fun K x x st f fd ∧ mg x = some (.ref f) ∧ Binds K fd ps []
theorem Df.own {x : Str} {st : Stmt} {ps N : List Str} {k : Nat} {sp : Sp} (D : Df K mg x st ps) (S : FnScope N ps (defScope st)) (len : ∀ vs H Q E, sp vs H Q E → vs.length = ps.length)
    (hbody : ∀ (f : Addr) (cdv : Value) (A : Around) (outer : List Env) (s : Shared) (H : Hp) (vs : List V) (Q : VK) (E : XK), Room k (A.deeper (envOfC x (defScope st) s.heap.objs.size f cdv)) → sp vs H Q E →
      ∃ t, PSs (cxOf CX0 P w K mg base N x (defScope st) f cdv A outer s H E).nox (defBody st) t ∧ t { nx := fun _ H' => Q .non H', rt := Q } (start N vs) H) : Own P w K mg base x (k + 1) ps sp := by
  obtain ⟨f, fd, F, m, b⟩ := D.ex
  exact ⟨f, fd, F.ok S len (hbody f), m, F.kp, b⟩
theorem Own.imp {x : Str} {k j : Nat} {ps : List Str} {sp sp' : Sp} (O : Own P w K mg base x k ps sp) (hk : k ≤ j) (h : ∀ vs H Q E, sp' vs H Q E → sp vs H Q E) : Own P w K mg base x j ps sp' := by
  obtain ⟨f, fd, F, r⟩ := O.ex
  exact ⟨f, fd, (F.mono hk).imp h, r⟩
/-- a method of the class at C -/
structure Mth (P : Program) (w : World) (K : PySem.W.Frag) (mg : Str → Option Value) (base : Heap) (C : Addr) (m : Str) (k : Nat) (ps : List Str) (sp : Sp) : Prop where
  ex : ∃ f fd, FnOk P w K mg base CX0 k f fd ps sp ∧ Meth K C m f ∧ Binds K fd ps []
structure Prp (P : Program) (w : World) (K : PySem.W.Frag) (mg : Str → Option Value) (base : Heap) (C : Addr) (m : Str) (k : Nat) (ps : List Str) (sp : Sp) : Prop where
  ex : ∃ p f fd, FnOk P w K mg base CX0 k f fd ps sp ∧ PropOf K C m p f ∧ Binds K fd ps []
/-- the module's name x is a class whose __init__ keeps a promise -/
structure Mks (P : Program) (w : World) (K : PySem.W.Frag) (mg : Str → Option Value) (base : Heap) (x : Str) (C : Addr) (k : Nat) (ps : List Str) (sp : Sp) : Prop where
  ex : ∃ f fd, FnOk P w K mg base CX0 k f fd ps sp ∧ mg x = some (.ref C) ∧ Mk K C f ∧ Binds K fd ps []
end
section
variable {X : Cx} {x m : Str} {p pos apos : Pos} {e o : Expr} {es : List Expr} {t : TA} {ta : TE} {k : Nat} {ps : List Str} {sp : Sp} {C : Addr}
theorem pe_own (O : Own X.prog X.w X.K X.mg X.base x k ps sp) (hr : Room k X.A) (ha : PA X (e :: es) t) (hg : Gl X x := by exact rfl) (hdb : (x == ("__debug__" : Str)) = false := by decide)
    (he : starEach (e :: es) X.env = (false, eval e X.env) :: starEach es X.env := by rfl) (hpl : (backTo pos (starEach es X.env)).any (·.1) = false := by rfl) : PE X (.Call (.Name x p) (e :: es) [] pos) (tCall sp [] E0 t) := by
  obtain ⟨f, fd, G, hm, hk, hb⟩ := O.ex
  exact pe_call G hr hg hm hk hb .nil pass0 ha hdb he hpl
theorem pe_own0 (O : Own X.prog X.w X.K X.mg X.base x k ps sp) (hr : Room k X.A) (hg : Gl X x := by exact rfl) (hdb : (x == ("__debug__" : Str)) = false := by decide) : PE X (.Call (.Name x p) [] [] pos) (tCall sp [] E0 tNil) := by
  obtain ⟨f, fd, G, hm, hk, hb⟩ := O.ex
  exact pe_call0 G hr hg hm hk hb .nil pass0 hdb
theorem pe_mks (O : Mks X.prog X.w X.K X.mg X.base x C k ps sp) (hr : Room (k + 1) X.A) (ha : PA X (e :: es) t) (hg : Gl X x := by exact rfl) (hdb : (x == ("__debug__" : Str)) = false := by decide)
    (he : starEach (e :: es) X.env = (false, eval e X.env) :: starEach es X.env := by rfl) (hpl : (backTo pos (starEach es X.env)).any (·.1) = false := by rfl) : PE X (.Call (.Name x p) (e :: es) [] pos) (tMake C sp [] E0 t) := by
  obtain ⟨f, fd, G, hm, M, hb⟩ := O.ex
  exact pe_make M G hr hg hm hb .nil pass0 ha hdb he hpl
theorem pe_mth (c : Cls X.K C) (O : Mth X.prog X.w X.K X.mg X.base C m k ps sp) (hr : Room k X.A) (he : PE X o ta) (ha : PA X (e :: es) t)
    (hst : starEach (e :: es) X.env = (false, eval e X.env) :: starEach es X.env := by rfl) (hpl : (backTo pos (starEach es X.env)).any (·.1) = false := by rfl)
    {pl : Sem Bool} (ht : eval (.Call (.Attribute o m apos) (e :: es) [] pos) X.env = (do
      let ov ← eval o X.env
      standAt apos.atName
      let (f, first) ← holding [ov] (getMethod ov m pl)
      callWith pos f first (backTo pos (starEach (e :: es) X.env)) (backToKw pos (keywordEach [] X.env))) := by rfl) : PE X (.Call (.Attribute o m apos) (e :: es) [] pos) (tMeth C m sp [] E0 ta t) := by
  obtain ⟨f, fd, G, M, hb⟩ := O.ex
  exact pe_meth he c M G hr hb .nil pass0 ha hst hpl ht
theorem pe_prp (c : Cls X.K C) (O : Prp X.prog X.w X.K X.mg X.base C m k ps sp) (hr : Room (k + 1) X.A) (he : PE X o ta) (hab : attributeBase o m X.env (eval o X.env) = eval o X.env := by rfl) : PE X (.Attribute o m pos) (tProp C sp [] E0 ta) := by
  obtain ⟨q, f, fd, G, M, hb⟩ := O.ex
  exact pe_prop he c M G hr hb .nil pass0 hab
end
/-! ## heaps -/
theorem same_upd {H : Hp} {p : Addr} {o : HO} (h : H p = none) : Same H (upd H p o) := fun b x e => by
  rw [upd_ne (ne_of_none e h)]
  exact e
theorem _root_.L2.Same.seqT {K : PySem.W.Frag} {H H' : Hp} {a : Addr} {xs : List V} (e : Same H H') (h : SqT K H a xs) : SqT K H' a xs := by
  rcases h with (h | ⟨o, h⟩) | h
  · exact .inl (.inl (e _ _ h))
  · exact .inl (.inr ⟨o, e _ _ h⟩)
  · exact .inr h
theorem new_lst {Q : VK} {xs : List V} {H : Hp} (hl : xs.length ≤ sizeLine) (h : ∀ p H', Same H H' → H p = none → H' p = some (.lst xs) → Q (.ref p) H') : xs.length ≤ sizeLine ∧ ∀ p, H p = none → Q (.ref p) (upd H p (.lst xs)) :=
  ⟨hl, fun p hp => h p _ (same_upd hp) hp upd_same⟩
theorem new_tup {Q : VK} {xs : List V} {H : Hp} (hl : xs.length ≤ sizeLine) (h : ∀ p H', Same H H' → H p = none → H' p = some (.tup xs) → Q (.ref p) H') : xs.length ≤ sizeLine ∧ ∀ p, H p = none → Q (.ref p) (upd H p (.tup xs)) :=
  ⟨hl, fun p hp => h p _ (same_upd hp) hp upd_same⟩
theorem new_o {Q : VK} {o : HO} {H : Hp} (h : ∀ p H', Same H H' → H p = none → H' p = some o → Q (.ref p) H') : ∀ p, H p = none → Q (.ref p) (upd H p o) :=
  fun p hp => h p _ (same_upd hp) hp upd_same
end My
namespace My
open PySem PySem.Spec PyProof.Rows L2
/-! ## readings in one step -/
theorem rd_isi {K : PySem.W.Frag} {H : Hp} {Q : VK} {x : V} {m : String} (n : String) (b : Bool) (ty : TyX K H x (.type n)) (h : kitB n m = some b) (q : Q (.bl b) H) : rIsi K [x, .ty m] H Q :=
  ⟨_, _, _, _, _, rfl, .ty _, ty, kit_ty h, q⟩
theorem rd_isi2 {K : PySem.W.Frag} {H : Hp} {Q : VK} {x : V} {m m' : String} {tp : Addr} (n : String) (b b' : Bool) (ht : H tp = some (.tup [.ty m, .ty m'])) (ty : TyX K H x (.type n)) (h : kitB n m = some b) (h' : kitB n m' = some b') (q : Q (.bl (b || b')) H) : rIsiT K [x, .ref tp] H Q :=
  ⟨_, _, _, _, _, _, rfl, ht, .cons (.ty _) (.cons (.ty _) .nil), ty, kitAny_cons (kit_ty h) (fun e => kitAny_cons (r := b || b') (kit_ty h') (fun e' => by rw [e, e']; rfl) (fun e' => by rw [e, e']; rfl)) (fun e => by rw [e]; rfl), q⟩
end My
namespace My
open PySem PySem.Spec PyProof.Rows L2
/-! ## a list or a tuple -/
def SqS (K : PySem.W.Frag) (H : Hp) (a : Addr) (xs : List V) : Prop := SqL K H a xs ∨ SqT K H a xs
theorem _root_.L2.Same.sqs {K : PySem.W.Frag} {H H' : Hp} {a : Addr} {xs : List V} (e : Same H H') (h : SqS K H a xs) : SqS K H' a xs := h.imp e.seq e.seqT
/-- how a walk over such a thing goes, as long as what is tracked in H0 stands -/
structure SeqIt (H0 : Hp) (xs : List V) (J : It) : Prop where
  go : ∀ i H, Same H0 H → i < xs.length → J.go i H
  yld : ∀ i H x H', Same H0 H → J.yld i H x H' → H' = H ∧ xs[i]? = some x
  stop : ∀ i H, Same H0 H → xs.length ≤ i → J.stop i H
theorem seqIt_l {K : PySem.W.Frag} {H0 : Hp} {a : Addr} {xs : List V} (h : SqL K H0 a xs) : SeqIt H0 xs (Itl K a) :=
  ⟨fun i H s l => ⟨xs, xs[i], s.seq h, by simp [l]⟩, fun i H x H' s y => ⟨y.1, y.2 xs (s.seq h)⟩, fun i H s l => ⟨xs, s.seq h, l⟩⟩
theorem seqIt_t {K : PySem.W.Frag} {H0 : Hp} {a : Addr} {xs : List V} (h : SqT K H0 a xs) : SeqIt H0 xs (Itt K a) :=
  ⟨fun i H s l => ⟨xs, xs[i], s.seqT h, by simp [l]⟩, fun i H x H' s y => ⟨y.1, y.2 xs (s.seqT h)⟩, fun i H s l => ⟨xs, s.seqT h, l⟩⟩
theorem seq_pi {K : PySem.W.Frag} {a : Addr} {xs : List V} {i : Nat} {σ : L2.St} {H : Hp} {R : It → Hp → Prop} (h : SqS K H a xs) (hv : σ[i]? = some (some (.ref a))) (hR : ∀ J, SeqIt H xs J → R J H) : iList K (tVar i) σ H R ∨ iTup K (tVar i) σ H R :=
  h.elim (fun h => Or.inl ⟨_, hv, a, rfl, ⟨_, h⟩, hR _ (seqIt_l h)⟩) fun h => Or.inr ⟨_, hv, a, rfl, ⟨_, h⟩, hR _ (seqIt_t h)⟩
theorem for_seq {J : It} {H0 : Hp} {xs : List V} {g : TG} {tb : TS} {D : Ends} {σ : L2.St} {H : Hp} (hJ : SeqIt H0 xs J) (Pv : Nat → L2.St → Hp → Prop) (h0 : Pv 0 σ H) (hl : ∀ i σ H, Pv i σ H → Same H0 H)
    (hs : ∀ i x σ H, xs[i]? = some x → Pv i σ H → g x σ H fun σ2 H2 => tb { D with nx := Pv (i + 1), ct := Pv (i + 1), bk := D.nx } σ2 H2) (hd : ∀ σ H, Pv xs.length σ H → D.nx σ H) :
    ∃ W : Nat → Nat → L2.St → Hp → Prop, (∃ m, W 0 m σ H) ∧ ∀ i m σ H, W i m σ H →
      (J.stop i H ∧ D.nx σ H) ∨ (J.go i H ∧ ∃ N : L2.St → Hp → Prop, (∀ σ' H', N σ' H' → ∃ m', m' < m ∧ W (i + 1) m' σ' H') ∧ ∀ x H', J.yld i H x H' → g x σ H' fun σ2 H2 => tb { D with nx := N, ct := N, bk := D.nx } σ2 H2) := by
  refine ⟨fun i m σ H => m + i = xs.length ∧ Pv i σ H, ⟨xs.length, by omega, h0⟩, fun i m σ H q => ?_⟩
  obtain ⟨em, p⟩ := q
  have s := hl i σ H p
  by_cases hlt : i < xs.length
  · refine Or.inr ⟨hJ.go i H s hlt, Pv (i + 1), fun σ' H' p' => ⟨m - 1, by omega, by omega, p'⟩, fun x H' y => ?_⟩
    obtain ⟨rfl, e⟩ := hJ.yld i H x H' s y
    exact hs i x _ _ e p
  · have e : i = xs.length := by omega
    subst e
    exact Or.inl ⟨hJ.stop _ H s (Nat.le_refl _), hd _ _ p⟩
theorem lc_seq {J : It} {H0 : Hp} {xs : List V} {g : TG} {tt : TT} {te : TE} {vs : List Nat} {σ : L2.St} {H1 : Hp} {D : Addr} {Qd : Hp → Prop} (hJ : SeqIt H0 xs J) (Pv : Nat → Hp → Prop) (h0 : Pv 0 (upd H1 D (.lst []))) (hl : ∀ i H, Pv i H → Same H0 H)
    (hs : ∀ i x H, xs[i]? = some x → Pv i H → g x (wipe σ vs) H fun σ2 H2 => wipe σ2 vs = wipe σ vs ∧ tt σ2 H2 fun b H3 =>
      if b = true then te σ2 H3 fun y H4 => ∃ acc, H4 D = some (.lst acc) ∧ acc.length < sizeLine ∧ Pv (i + 1) (upd H4 D (.lst (acc ++ [y]))) else Pv (i + 1) H3) (hd : ∀ H, Pv xs.length H → Qd H) :
    ∃ W : Nat → Nat → Hp → Prop, (∃ m, W 0 m (upd H1 D (.lst []))) ∧ ∀ i m H, W i m H →
      (J.stop i H ∧ Qd H) ∨ (J.go i H ∧ ∃ Nx : Hp → Prop, (∀ H', Nx H' → ∃ m', m' < m ∧ W (i + 1) m' H') ∧ ∀ x H', J.yld i H x H' → g x (wipe σ vs) H' fun σ2 H2 => wipe σ2 vs = wipe σ vs ∧ tt σ2 H2 fun b H3 =>
        if b = true then te σ2 H3 fun y H4 => ∃ acc, H4 D = some (.lst acc) ∧ acc.length < sizeLine ∧ Nx (upd H4 D (.lst (acc ++ [y]))) else Nx H3) := by
  refine ⟨fun i m H => m + i = xs.length ∧ Pv i H, ⟨xs.length, by omega, h0⟩, fun i m H q => ?_⟩
  obtain ⟨em, p⟩ := q
  have s := hl i H p
  by_cases hlt : i < xs.length
  · refine Or.inr ⟨hJ.go i H s hlt, Pv (i + 1), fun H' p' => ⟨m - 1, by omega, by omega, p'⟩, fun x H' y => ?_⟩
    obtain ⟨rfl, e⟩ := hJ.yld i H x H' s y
    exact hs i x _ e p
  · have e : i = xs.length := by omega
    subst e
    exact Or.inl ⟨hJ.stop _ H s (Nat.le_refl _), hd _ p⟩
theorem new_facts {H H1 : Hp} {p : Addr} {o : HO} (hp : H p = none) (hq : upd H p o = H1) : Same H H1 ∧ H1 p = some o := by
  subst hq
  exact ⟨same_upd hp, upd_same⟩
theorem _root_.L2.Same.upd1 {H0 H : Hp} {p : Addr} {o : HO} (s : Same H0 H) (hp : H0 p = none) : Same H0 (upd H p o) := fun b x e => by
  rw [upd_ne (ne_of_none e hp)]
  exact s _ _ e
end My

namespace My
open PySem PySem.Spec PyProof.Rows L2
theorem Same.at {H H' : Hp} {a : Addr} {o : HO} (e : Same H H') (h : H a = some o) : H' a = some o := e _ _ h
/-- a comprehension's new list: what f gives of the turns so far -/
structure LcP (H1 : Hp) (D : Addr) (f : Nat → Option V) (i : Nat) (H : Hp) : Prop where
  same : Same H1 H
  lst : H D = some (.lst ((List.range i).filterMap f))
theorem fm_len (f : Nat → Option V) (i : Nat) : ((List.range i).filterMap f).length ≤ i := by
  have := List.length_filterMap_le f (List.range i)
  rw [List.length_range] at this
  exact this
theorem LcP.zero {H1 : Hp} {D : Addr} {f : Nat → Option V} (n : H1 D = none) : LcP H1 D f 0 (upd H1 D (.lst [])) := ⟨same_upd n, upd_same⟩
theorem LcP.yes {H1 H H4 : Hp} {D : Addr} {f : Nat → Option V} {i : Nat} {y : V} (p : LcP H1 D f i H) (s : Same H H4) (n : H1 D = none) (hi : i < sizeLine) (e : f i = some y) :
    ∃ acc, H4 D = some (.lst acc) ∧ acc.length < sizeLine ∧ LcP H1 D f (i + 1) (upd H4 D (.lst (acc ++ [y]))) := by
  refine ⟨_, s _ _ p.lst, Nat.lt_of_le_of_lt (fm_len f i) hi, (p.same.trans s).upd1 n, ?_⟩
  rw [upd_same, List.range_succ, List.filterMap_append, List.filterMap_cons, e, List.filterMap_nil]
theorem LcP.no {H1 H H3 : Hp} {D : Addr} {f : Nat → Option V} {i : Nat} (p : LcP H1 D f i H) (s : Same H H3) (e : f i = none) : LcP H1 D f (i + 1) H3 := by
  refine ⟨p.same.trans s, ?_⟩
  rw [s _ _ p.lst, List.range_succ, List.filterMap_append, List.filterMap_cons, e, List.filterMap_nil, List.append_nil]
theorem fm_join {β : Type} : ∀ (zs : List (Option β)), (List.range zs.length).filterMap (fun i => (zs[i]?).join) = zs.filterMap id
  | [] => rfl
  | z :: zs => by
    rw [List.length_cons, List.range_succ_eq_map, List.filterMap_cons, List.filterMap_map]
    have e : (fun (j : Nat) => ((z :: zs)[j]?).join) ∘ Nat.succ = fun (j : Nat) => (zs[j]?).join := by
      funext j
      rfl
    rw [e, fm_join zs]
    cases z <;> rfl
theorem fm_opt {α β : Type} (xs : List α) (g : α → Option β) : (List.range xs.length).filterMap (fun i => (xs[i]?).bind g) = xs.filterMap g := by
  have e : (fun (i : Nat) => (xs[i]?).bind g) = fun (i : Nat) => ((xs.map g)[i]?).join := by
    funext i
    rw [List.getElem?_map]
    cases xs[i]? <;> rfl
  rw [e, show xs.length = (xs.map g).length from (List.length_map ..).symm, fm_join, List.filterMap_map]
  rfl
theorem fm_get {α β : Type} (xs : List α) (g : α → β) : (List.range xs.length).filterMap (fun i => (xs[i]?).map g) = xs.map g := by
  have e : (fun (i : Nat) => (xs[i]?).map g) = fun (i : Nat) => (xs[i]?).bind fun x => some (g x) := by
    funext i
    cases xs[i]? <;> rfl
  rw [e, fm_opt]
  exact congrFun (List.filterMap_eq_map (f := g)) xs
theorem fm_if {α β : Type} (xs : List α) (p : α → Bool) (g : α → β) : (List.range xs.length).filterMap (fun i => (xs[i]?).bind fun x => if p x = true then some (g x) else none) = (xs.filter p).map g := by
  rw [fm_opt]
  induction xs with
  | nil => rfl
  | cons x xs ih =>
    by_cases c : p x = true
    · rw [List.filterMap_cons, if_pos c, List.filter_cons_of_pos c, List.map_cons, ih]
    · rw [List.filterMap_cons, if_neg c, List.filter_cons_of_neg c, ih]
end My

/-! data on the abstract heap; what the checks of the program say of data -/
namespace My
open PySem PySem.Spec PyProof.Rows L2
/-- what a text must be to be told and compared -/
def okS (x : Str) : Bool := x.cps.all (· < 0x110000) && decide (x.length ≤ 1000)
mutual
/-- v is the data d, in lists and tuples that stand in H -/
inductive Dv (H : Hp) : V → PyData → Prop
  | non : Dv H .non .none
  | bl (b : Bool) : Dv H (.bl b) (.bool b)
  | int (i : Int) : Dv H (.int i) (.int i)
  | str {x : Str} (h : okS x = true) : Dv H (.str x) (.str x)
  | lst {a : Addr} {xs : List V} {ds : List PyData} (e : H a = some (.lst xs)) (h : DvAll H xs ds) (sm : ds.length ≤ 2000) : Dv H (.ref a) (.list ds)
  | tup {a : Addr} {xs : List V} {ds : List PyData} (e : H a = some (.tup xs)) (h : DvAll H xs ds) (sm : ds.length ≤ 2000) : Dv H (.ref a) (.tuple ds)
inductive DvAll (H : Hp) : List V → List PyData → Prop
  | nil : DvAll H [] []
  | cons {v : V} {d : PyData} {vs : List V} {ds : List PyData} (h : Dv H v d) (t : DvAll H vs ds) : DvAll H (v :: vs) (d :: ds)
end
section
variable {K : PySem.W.Frag} {H H' : Hp} {v : V} {d : PyData} {xs ys : List V} {ds es : List PyData}
theorem Dv.same (s : Same H H') (h : Dv H v d) : Dv H' v d :=
  Dv.rec (motive_1 := fun v d _ => Dv H' v d) (motive_2 := fun vs ds _ => DvAll H' vs ds) .non (fun b => .bl b) (fun i => .int i) (fun q => .str q) (fun q _ sm ih => .lst (s _ _ q) ih sm) (fun q _ sm ih => .tup (s _ _ q) ih sm) .nil (fun _ _ a b => .cons a b) h
theorem DvAll.same (s : Same H H') (h : DvAll H xs ds) : DvAll H' xs ds := by
  induction xs generalizing ds with
  | nil =>
    cases h
    exact .nil
  | cons x xs ih =>
    cases h with
    | cons h t => exact .cons (h.same s) (ih t)
theorem Dv.dp (h : Dv H v d) : Dp K H v d :=
  Dv.rec (motive_1 := fun v d _ => Dp K H v d) (motive_2 := fun vs ds _ => DpAll K H vs ds) .non (fun b => .bl b) (fun i => .int i) (fun {x} _ => .str x) (fun q _ _ ih => .lst (SqL.of q) ih) (fun q _ _ ih => .tup (SqT.of q) ih) .nil (fun _ _ a b => .cons a b) h
theorem Dv.lay (h : Dv H v d) : d.canLay0 = true :=
  Dv.rec (motive_1 := fun _ d _ => d.canLay0 = true) (motive_2 := fun _ ds _ => PyData.canLayAll0 ds = true) rfl (fun _ => rfl) (fun _ => rfl) (fun {x} q => (Bool.and_eq_true_iff.mp q).1) (fun _ _ _ ih => ih) (fun _ _ _ ih => ih) rfl
    (fun {_ d _ ds} _ _ a b => by
      show (PyData.canLay0 d && PyData.canLayAll0 ds) = true
      rw [a, b]
      rfl) h
theorem DvAll.len (h : DvAll H xs ds) : xs.length = ds.length := by
  induction xs generalizing ds with
  | nil =>
    cases h
    rfl
  | cons x xs ih =>
    cases h with
    | cons h t => rw [List.length_cons, List.length_cons, ih t]
theorem DvAll.get (h : DvAll H xs ds) {i : Nat} {x : V} (e : xs[i]? = some x) : ∃ d, ds[i]? = some d ∧ Dv H x d := by
  induction xs generalizing ds i with
  | nil => cases i <;> cases e
  | cons y xs ih =>
    cases h with
    | cons h t =>
      cases i with
      | zero =>
        cases e
        exact ⟨_, rfl, h⟩
      | succ i => exact ih t e
theorem DvAll.app (h : DvAll H xs ds) (g : DvAll H ys es) : DvAll H (xs ++ ys) (ds ++ es) := by
  induction xs generalizing ds with
  | nil =>
    cases h
    exact g
  | cons x xs ih =>
    cases h with
    | cons h t => exact .cons h (ih t)
theorem DvAll.inv {d : PyData} (h : DvAll H xs (d :: ds)) : ∃ x ys, xs = x :: ys ∧ Dv H x d ∧ DvAll H ys ds := by
  cases h with
  | cons h t => exact ⟨_, _, rfl, h, t⟩
theorem DvAll.inv0 (h : DvAll H xs []) : xs = [] := by
  cases h
  rfl
end
/-- texts -/
theorem dvAll_str {H : Hp} : ∀ {ss : List Str}, (∀ x ∈ ss, okS x = true) → DvAll H (ss.map V.str) (ss.map PyData.str)
  | [], _ => .nil
  | x :: ss, h => .cons (.str (h x List.mem_cons_self)) (dvAll_str fun y hy => h y (List.mem_cons_of_mem _ hy))
/-! ## the types -/
def tyD : PyData → String
  | .none => "NoneType"
  | .bool _ => "bool"
  | .int _ => "int"
  | .str _ => "str"
  | .list _ => "list"
  | .tuple _ => "tuple"
  | .dict _ => "dict"
def isIntD : PyData → Bool
  | .int _ => true
  | _ => false
def isNumD : PyData → Bool
  | .int i => decide (0 ≤ i)
  | _ => false
def isStrD : PyData → Bool
  | .str _ => true
  | _ => false
def isTupD : PyData → Bool
  | .tuple _ => true
  | _ => false
def isSeqD : PyData → Bool
  | .list _ => true
  | .tuple _ => true
  | _ => false
/-- what stands in it, if it is a list or a tuple -/
def itemsD : PyData → List PyData
  | .list ds => ds
  | .tuple ds => ds
  | _ => []
def isTupND (n : Int) : PyData → Bool
  | .tuple ds => decide ((ds.length : Int) = n)
  | _ => false
/-- a small letter's code -/
def isLow (c : Nat) : Bool := decide (97 ≤ c) && decide (c ≤ 122)
def nameS (x : Str) : Bool := decide (1 ≤ x.length) && (decide (x.length ≤ 5) && x.cps.toList.all isLow)
def isNameD : PyData → Bool
  | .str x => nameS x
  | _ => false
def isLinkD : PyData → Bool
  | .tuple [f, t, m, l] => isStrD f && (isStrD t && (isNumD m && isNumD l))
  | _ => false
section
variable {K : PySem.W.Frag} {H : Hp} {v : V} {d : PyData} {Q : VK}
theorem Dv.ty (h : Dv H v d) : TyX K H v (.type (tyD d)) := by
  cases h with
  | non => exact .base .non
  | bl b => exact .base (.bl b)
  | int i => exact .base (.int i)
  | str h => exact .base (.str _)
  | lst e _ _ => exact .base (.lst e)
  | tup e _ _ => exact .base (.tup e)
theorem kb_int (d : PyData) : kitB (tyD d) "int" = some (match d with | .int _ => true | .bool _ => true | _ => false) := by cases d <;> (simp only [tyD, isStrD, isTupD]; decide +kernel)
theorem kb_bool (d : PyData) : kitB (tyD d) "bool" = some (match d with | .bool _ => true | _ => false) := by cases d <;> (simp only [tyD, isStrD, isTupD]; decide +kernel)
theorem kb_str (d : PyData) : kitB (tyD d) "str" = some (isStrD d) := by cases d <;> (simp only [tyD, isStrD, isTupD]; decide +kernel)
theorem kb_list (d : PyData) : kitB (tyD d) "list" = some (match d with | .list _ => true | _ => false) := by cases d <;> (simp only [tyD, isStrD, isTupD]; decide +kernel)
theorem kb_tuple (d : PyData) : kitB (tyD d) "tuple" = some (isTupD d) := by cases d <;> (simp only [tyD, isStrD, isTupD]; decide +kernel)
theorem rd_str (h : Dv H v d) (q : Q (.bl (isStrD d)) H) : rIsi K [v, .ty "str"] H Q := rd_isi _ _ h.ty (kb_str d) q
theorem rd_tuple (h : Dv H v d) (q : Q (.bl (isTupD d)) H) : rIsi K [v, .ty "tuple"] H Q := rd_isi _ _ h.ty (kb_tuple d) q
theorem rd_seq {tp : Addr} (h : Dv H v d) (e : H tp = some (.tup [.ty "list", .ty "tuple"])) (q : Q (.bl (isSeqD d)) H) : rIsiT K [v, .ref tp] H Q := by
  refine rd_isi2 _ _ _ e h.ty (kb_list d) (kb_tuple d) ?_
  cases d <;> exact q
/-- a list or a tuple as it stands -/
theorem Dv.seq (h : Dv H v d) (s : isSeqD d = true) : ∃ a xs, v = .ref a ∧ SqS K H a xs ∧ DvAll H xs (itemsD d) ∧ (itemsD d).length ≤ 2000 ∧ (H a = some (.lst xs) ∨ H a = some (.tup xs)) := by
  cases h with
  | lst e h sm => exact ⟨_, _, rfl, Or.inl (SqL.of e), h, sm, Or.inl e⟩
  | tup e h sm => exact ⟨_, _, rfl, Or.inr (SqT.of e), h, sm, Or.inr e⟩
  | _ => cases s
theorem Dv.tupE (h : Dv H v d) (s : isTupD d = true) : ∃ a xs ds, v = .ref a ∧ d = .tuple ds ∧ H a = some (.tup xs) ∧ DvAll H xs ds ∧ ds.length ≤ 2000 := by
  cases h with
  | tup e h sm => exact ⟨_, _, _, rfl, rfl, e, h, sm⟩
  | _ => cases s
theorem isTupN_tup {n : Int} (d : PyData) : isTupND n d = true → isTupD d = true := by
  cases d <;> intro h <;> first | rfl | cases h
end
end My

namespace My
open PySem PySem.Spec PyProof.Rows L2
def topS (i : Nat) : Stmt := PySem.Challenge.pw_waitworks_k87_tallies_made.main.body.getD i (.Pass ⟨0, 0, 0, 0⟩)
/-- what of the built-in names is still built-in -/
structure Txt (mg : Str → Option Value) : Prop where
  max : mg "max" = none
  min : mg "min" = none
  int : mg "int" = none
  len : mg "len" = none
  abs : mg "abs" = none
  range : mg "range" = none
  isinstance : mg "isinstance" = none
  bool : mg "bool" = none
  list : mg "list" = none
  tuple : mg "tuple" = none
  all : mg "all" = none
  repr : mg "repr" = none
  zip : mg "zip" = none
  divmod : mg "divmod" = none
end My

namespace My
open PySem PySem.Spec PyProof.Rows L2
local macro_rules | `(tactic| walk_at "wp_side") => `(tactic| first | (dsimp only; omega) | exact ⟨by omega, by omega⟩ | exact Or.inl ⟨by omega, by omega⟩ | exact Or.inr ⟨by omega, by omega⟩ | decide)
local macro_rules | `(tactic| walk_at "wp1") => `(tactic| first
  | refine ⟨_, rfl, ?_⟩
  | refine ⟨_, _, rfl, rfl, (by walk_at "wp_side"), ?_⟩
  | refine ⟨_, _, rfl, rfl, ?_⟩
  | refine ⟨_, _, _, _, rfl, rfl, SqL.of (by first | assumption | exact upd_same), rfl, ?_⟩
  | refine ⟨_, _, _, _, rfl, rfl, (by first | assumption | exact upd_same), rfl, ?_⟩
  | refine ⟨_, _, rfl, Or.inl (by assumption), ?_⟩
  | refine Or.inl ⟨_, rfl, ?_⟩)
local macro_rules | `(tactic| walk_at "wps") => `(tactic| repeat walk_at "wp1")
local macro_rules | `(tactic| walk_at "side") => `(tactic| first | (dsimp only; omega) | exact ⟨by omega, by omega⟩ | exact Or.inl ⟨by omega, by omega⟩ | exact Or.inr ⟨by omega, by omega⟩ | decide)
local macro_rules | `(tactic| walk_at "sq") => `(tactic| first | assumption | exact SqL.of (by assumption) | exact SqT.of (by assumption) | (refine L2.Same.seq (by assumption) ?_; walk_at "sq") | (refine L2.Same.seqT (by assumption) ?_; walk_at "sq") | exact Or.inl (by walk_at "sq") | exact Or.inr (by walk_at "sq"))
local macro_rules | `(tactic| walk_at "1") => `(tactic| first
  | refine ⟨_, rfl, iteT ?_⟩
  | refine ⟨_, rfl, iteF ?_⟩
  | refine ⟨_, rfl, ?_⟩
  | refine ⟨_, _, rfl, rfl, (by walk_at "side"), ?_⟩
  | refine ⟨_, _, rfl, rfl, ?_⟩
  | refine ⟨_, _, _, _, true, rfl, .ty _, .base (.int _), kit_ty (a := "int") (by decide +kernel), ?_⟩
  | refine ⟨_, _, _, _, false, rfl, .ty _, .base (.int _), kit_ty (a := "int") (by decide +kernel), ?_⟩
  | refine ⟨_, _, rfl, (by walk_at "sq"), ?_⟩
  | refine ⟨_, _, _, _, rfl, rfl, (by walk_at "sq"), (by first | rfl | assumption), ?_⟩
  | refine Or.inl ⟨_, _, _, _, rfl, rfl, (by walk_at "sq"), (by first | rfl | assumption), ?_⟩
  | refine Or.inr (Or.inl ⟨_, _, _, _, rfl, rfl, (by walk_at "sq"), (by first | rfl | assumption), ?_⟩)
  | refine ⟨_, _, rfl, Or.inl ⟨(by walk_at "sq"), ?_⟩⟩
  | refine ⟨rfl, ?_⟩
  | refine iteT ?_
  | refine iteF ?_
  | refine ⟨_, _, _, _, _, rfl, (by assumption), (by assumption), (by assumption), (by assumption), ?_⟩
  | refine Or.inl ⟨_, rfl, ?_⟩
  | refine ⟨_, _, rfl, (by walk_at "side"), ?_⟩
  | refine ⟨_, _, rfl, ?_⟩)
local macro_rules | `(tactic| walk_at "fld") => `(tactic| skip)
local macro_rules | `(tactic| walk_at "s") => `(tactic| repeat walk_at "1")
local macro_rules | `(tactic| walk_at "size") => `(tactic| first | exact Nat.le_of_ble_eq_true rfl | (simp only [List.length_map, List.length_append, List.length_cons, List.length_nil]; omega))
local macro_rules | `(tactic| walk_at "new") => `(tactic| (first | refine ⟨(by walk_at "size"), fun p hp => ?_⟩ | refine fun p hp => ?_); (generalize hq : upd _ p _ = H1); (obtain ⟨s, e⟩ := new_facts hp hq); clear hq)

theorem upd_facts {H H1 : Hp} {p : Addr} {o : HO} (hq : upd H p o = H1) : H1 p = some o ∧ ∀ b, b ≠ p → H1 b = H b := by
  subst hq
  exact ⟨upd_same, fun b h => upd_ne h⟩

/-- a box of draws -/
def BoxAt (H : Hp) (b : Addr) : Prop := ∃ x y z : Int, 0 ≤ x ∧ H b = some (.lst [.int x, .int y, .int z])
/-- all but the box stands -/
def Bx (b : Addr) (H H' : Hp) : Prop := ∀ c o, c ≠ b → H c = some o → H' c = some o
theorem Bx.of {b : Addr} {H H' : Hp} (s : Same H H') : Bx b H H' := fun c o _ e => s c o e
theorem Bx.trans {b : Addr} {H H1 H2 : Hp} (s : Bx b H H1) (t : Bx b H1 H2) : Bx b H H2 := fun c o n e => t c o n (s c o n e)
theorem Bx.upd {b : Addr} {H : Hp} {o : HO} : Bx b H (upd H b o) := fun c x n e => by
  rw [upd_ne n]
  exact e
theorem Bx.same {b : Addr} {H0 H H' : Hp} (s : Bx b H H') (h : Same H0 H) (n : H0 b = none) : Same H0 H' := fun c o e => s c o (ne_of_none e n) (h c o e)
theorem BoxAt.same {b : Addr} {H H' : Hp} (h : BoxAt H b) (s : Same H H') : BoxAt H' b := by
  obtain ⟨x, y, z, h0, h1⟩ := h
  exact ⟨x, y, z, h0, s _ _ h1⟩
theorem BoxAt.ne {b p : Addr} {H : Hp} (h : BoxAt H b) (n : H p = none) : p ≠ b := by
  obtain ⟨x, y, z, h0, h1⟩ := h
  exact (ne_of_none h1 n).symm
def spTake : Sp := fun vs H Q _ => ∃ (b : Addr) (m : Nat), vs = [.ref b, .int m] ∧ 0 < m ∧ m < 1073741824 ∧ BoxAt H b ∧ ∀ (H' : Hp) (n : Nat), n < m → Bx b H H' → BoxAt H' b → Q (.int n) H'
def spBox (K : PySem.W.Frag) : Sp := fun vs H Q _ => ∃ (a : Addr) (ns : List Int) (k : Nat), vs = [.ref a, .int k] ∧ SqL K H a (ns.map V.int) ∧ ns.length ≤ 63 ∧
  ∀ (H' : Hp) (p : Addr), Same H H' → H p = none → BoxAt H' p → Q (.ref p) H'
section
variable {P : Program} {w : World} {K : PySem.W.Frag} {mg : Str → Option Value} {base : Heap} {C : Addr}
abbrev s_law_take : Stmt := topS 25
theorem sc_law_take : FnScope ["box", "many", "digit", "near"] ["box", "many"] (defScope s_law_take) := ⟨rfl, rfl, rfl, by decide +kernel, rfl, by decide +kernel, by decide +kernel⟩
theorem ok_take (D : Df K mg "_law_take" s_law_take ["box", "many"]) (T : Txt mg) : Own P w K mg base "_law_take" 1 ["box", "many"] spTake := by
  refine D.own sc_law_take (fun vs H Q E h => ?_) (fun fa cdv A outer s H vs Q E hr h => ?_)
  · obtain ⟨_, _, rfl, _⟩ := h
    rfl
  · obtain ⟨b, m, rfl, m0, m1, ⟨x, y, z, x0, hb⟩, k⟩ := h
    have h8 : (0:Int) < 8191 ∧ (8191:Int) < 1073741824 := by decide
    have fin : ∀ (i x' y' z' : Int), 0 ≤ i → i < m → 0 ≤ x' → Q (.int i) (upd H b (.lst [.int x', .int y', .int z'])) := fun i x' y' z' i0 i1 hx => by
      have := k (upd H b (.lst [.int x', .int y', .int z'])) i.toNat (by omega) Bx.upd ⟨x', y', z', hx, upd_same⟩
      rw [show ((i.toNat : Nat) : Int) = i by omega] at this
      exact this
    refine ⟨_, (pss_cons (ps_if (pt_cmpR op_gt (pe_ix ix_list (pv 0) pe_int (fun _ _ => rfl)) pe_int (nomark _))
    (pss_cons (ps_set (i := 2) sc_law_take.nd rfl (Or.inl rfl) (pe_op op_mod (pe_callTy call_int1 (by rfl) T.int (by decide +kernel) (pa_cons (pe_ix ix_list (pv 0) pe_int (fun _ _ => rfl)) pa_nil)) (pv 1)))
      (pss_cons (ps_asg (pe_op op_fdiv (pe_ix ix_list (pv 0) pe_int (fun _ _ => rfl)) (pv 1)) (pg_sub (pv 0) pe_int set_list))
      (pss_one (ps_ret (pv 2)))))
    pss_nil)
  (pss_cons (ps_asg (pe_op op_add (pe_ix ix_list (pv 0) pe_int (fun _ _ => rfl)) pe_int) (pg_sub (pv 0) pe_int set_list))
  (pss_cons (ps_set (i := 3) sc_law_take.nd rfl (Or.inl rfl) (pe_op op_mod (pe_callTy call_int1 (by rfl) T.int (by decide +kernel) (pa_cons (pe_op op_mul (pe_op op_add (pe_ix ix_list (pv 0) pe_int (fun _ _ => rfl)) (pe_op op_mul pe_int (pe_ix ix_list (pv 0) pe_int (fun _ _ => rfl)))) pe_int) pa_nil)) pe_int))
  (pss_cons (ps_asg (pe_op op_add (pe_op op_mod (pe_callTy call_int1 (by rfl) T.int (by decide +kernel) (pa_cons (pe_op op_add (pe_op op_mul (pv 3) pe_int) pe_int) pa_nil)) pe_int) pe_int) (pg_sub (pv 0) pe_int set_list))
  (pss_one (ps_ret (pe_op op_mod (pe_callTy call_int1 (by rfl) T.int (by decide +kernel) (pa_cons (pe_op op_fdiv (pe_op op_add (pe_op op_mul (pv 3) pe_int) (pe_ix ix_list (pv 0) pe_int (fun _ _ => rfl))) pe_int) pa_nil)) (pv 1)))))))), ?_⟩
    walk_at "wps"
    refine ite2 (fun c => ?_) (fun c => ?_)
    · have c' : 0 < x := by simpa using c
      walk_at "wps"
      exact fin _ _ _ _ (Int.emod_nonneg _ (by omega)) (Int.emod_lt_of_pos _ (by omega)) (Int.ediv_nonneg x0 (by omega))
    · walk_at "wps"
      rw [upd_upd]
      exact fin _ _ _ _ (Int.emod_nonneg _ (by omega)) (Int.emod_lt_of_pos _ (by omega)) x0
abbrev s_law_box : Stmt := topS 24
theorem sc_law_box : FnScope ["script", "k", "great", "seed"] ["script", "k"] (defScope s_law_box) := ⟨rfl, rfl, rfl, by decide +kernel, rfl, by decide +kernel, by decide +kernel⟩
theorem ok_box (D : Df K mg "_law_box" s_law_box ["script", "k"]) (T : Txt mg) : Own P w K mg base "_law_box" 1 ["script", "k"] (spBox K) := by
  refine D.own sc_law_box (fun vs H Q E h => ?_) (fun fa cdv A outer s H vs Q E hr h => ?_)
  · obtain ⟨_, _, _, rfl, _⟩ := h
    rfl
  · obtain ⟨a, ns, k, rfl, hS, hlen, kk⟩ := h
    refine ⟨_, (pss_cons (ps_set (i := 2) sc_law_box.nd rfl (Or.inl rfl) (pe_op op_add (pe_op op_mul pe_int (pv 1)) pe_int))
  (C8.pss_cut (ps_if (pt_cmpR op_lt (pv 1) (pe_callB call_len_seq (by rfl) T.len PySem.boot_len (pa_cons (pv 0) pa_nil)) (nomark _))
    (pss_one (ps_set (i := 2) sc_law_box.nd rfl (Or.inl rfl) (pe_callB call_abs (by rfl) T.abs (by decide +kernel) (pa_cons (pe_callTy call_int1 (by rfl) T.int (by decide +kernel) (pa_cons (pe_ix ix_list (pv 0) (pv 1) (fun _ _ => rfl)) pa_nil)) pa_nil))))
    (pss_one (ps_if (pt_cmpR op_gt (pe_callB call_len_seq (by rfl) T.len PySem.boot_len (pa_cons (pv 0) pa_nil)) pe_int (nomark _))
        (pss_one (ps_set (i := 2) sc_law_box.nd rfl (Or.inl rfl) (pe_op op_add (pv 2) (pe_op op_mul (pe_op op_mod (pe_callTy call_int1 (by rfl) T.int (by decide +kernel) (pa_cons (pe_ix ix_list (pv 0) (pe_op op_mod (pe_callTy call_int1 (by rfl) T.int (by decide +kernel) (pa_cons (pv 1) pa_nil)) (pe_callB call_len_seq (by rfl) T.len PySem.boot_len (pa_cons (pv 0) pa_nil))) (fun _ _ => rfl)) pa_nil)) pe_int) pe_int))))
        pss_nil)))
  (pss_cons (ps_set (i := 3) sc_law_box.nd rfl (Or.inl rfl) (pe_op op_add (pe_op op_mod (pe_callTy call_int1 (by rfl) T.int (by decide +kernel) (pa_cons (pe_op op_add (pe_op op_add (pe_op op_mul (pe_op op_mod (pe_callTy call_int1 (by rfl) T.int (by decide +kernel) (pa_cons (pv 2) pa_nil)) pe_int) pe_int) (pe_op op_mul pe_int (pv 1))) pe_int) pa_nil)) pe_int) pe_int))
  (pss_one (ps_ret (pe_lst (pa_cons (pe_ix ix_list (pe_lst (pa_cons pe_int (pa_cons (pv 2) pa_nil))) (pe_callTy call_int1 (by rfl) T.int (by decide +kernel) (pa_cons (pe_cmpR op_ge (pv 2) (pe_op op_pow pe_int pe_int) (nomark _)) pa_nil)) (fun _ _ => rfl)) (pa_cons (pv 3) (pa_cons pe_int pa_nil))))))))), ?_⟩
    walk_at "wps"
    refine ⟨fun σ' H' => (∃ c : Int, σ' = [some (.ref a), some (.int (k : Int)), some (.int c), none]) ∧ H' = H, ?_, ?_⟩
    · walk_at "wps"
      have hl : ((ns.map V.int).length : Int) = (ns.length : Int) := by rw [List.length_map]
      refine ite2 (fun c => ?_) (fun c => ?_)
      · have c' : k < ns.length := by
          have c2 : (k : Int) < ((ns.map V.int).length : Int) := by simpa using c
          omega
        walk_at "wps"
        refine ⟨_, _, _, _, rfl, rfl, hS, atI_nat (List.getElem?_eq_getElem (by rw [List.length_map]; exact c')), ?_⟩
        rw [List.getElem_map]
        walk_at "wps"
        exact ⟨⟨_, rfl⟩, rfl⟩
      · walk_at "wps"
        refine ite2 (fun d => ?_) (fun d => ?_)
        · have d' : 0 < ns.length := by
            have d2 : (0 : Int) < ((ns.map V.int).length : Int) := by simpa using d
            omega
          have hm : (k : Int) % ((ns.map V.int).length : Int) = ((k % ns.length : Nat) : Int) := by rw [hl]; simp
          have lt : k % ns.length < (ns.map V.int).length := by rw [List.length_map]; exact Nat.mod_lt _ d'
          walk_at "wps"
          refine ⟨_, _, _, _, rfl, rfl, hS, at_of hm (List.getElem?_eq_getElem lt), ?_⟩
          rw [List.getElem_map]
          walk_at "wps"
          exact ⟨⟨_, rfl⟩, rfl⟩
        · exact ⟨⟨_, rfl⟩, rfl⟩
    · rintro σ' H' ⟨⟨c, rfl⟩, rfl⟩
      walk_at "wps"
      refine ⟨Nat.le_of_ble_eq_true rfl, fun q hq => ?_⟩
      walk_at "wps"
      refine Or.inr ⟨_, rfl, ?_⟩
      have s1 : Same H' (upd H' q (.lst [.int 0, .int c])) := fun b o e => by
        rw [upd_ne (ne_of_none e hq)]
        exact e
      have fin : ∀ x : Int, 0 ≤ x → ∀ y : Int, ∀ p : Addr, upd H' q (.lst [.int 0, .int c]) p = none → Q (.ref p) (upd (upd H' q (.lst [.int 0, .int c])) p (.lst [.int x, .int y, .int 0])) := fun x x0 y p hp =>
        kk _ p (s1.trans fun b o e => by rw [upd_ne (ne_of_none e hp)]; exact e) (s1.free hp) ⟨x, y, 0, x0, upd_same⟩
      by_cases big : (10 : Int) ^ (18 : Int).toNat ≤ c
      · rw [decide_eq_true big]
        refine ⟨_, _, _, _, rfl, rfl, SqL.of upd_same, rfl, ?_⟩
        walk_at "wps"
        exact ⟨Nat.le_of_ble_eq_true rfl, fun p hp => fin c (Int.le_trans (by decide) big) _ p hp⟩
      · rw [decide_eq_false big]
        refine ⟨_, _, _, _, rfl, rfl, SqL.of upd_same, rfl, ?_⟩
        walk_at "wps"
        exact ⟨Nat.le_of_ble_eq_true rfl, fun p hp => fin 0 (Int.le_refl _) _ p hp⟩
abbrev s_law_pick : Stmt := topS 26
theorem sc_law_pick : FnScope ["box", "some"] ["box", "some"] (defScope s_law_pick) := ⟨rfl, rfl, rfl, by decide +kernel, rfl, by decide +kernel, by decide +kernel⟩
def spPick : Sp := fun vs H Q _ => ∃ (b a : Addr) (xs : List V), vs = [.ref b, .ref a] ∧ BoxAt H b ∧ a ≠ b ∧ H a = some (.lst xs) ∧ 0 < xs.length ∧ xs.length < 1000 ∧ ∀ (H' : Hp) (x : V), x ∈ xs → Bx b H H' → BoxAt H' b → Q x H'
theorem ok_pick (D : Df K mg "_law_pick" s_law_pick ["box", "some"]) (T : Txt mg) (o_law_take : Own P w K mg base "_law_take" 1 ["box", "many"] spTake) : Own P w K mg base "_law_pick" 2 ["box", "some"] spPick := by
  refine D.own sc_law_pick (fun vs H Q E h => ?_) (fun fa cdv A outer s H vs Q E hr h => ?_)
  · obtain ⟨_, _, _, rfl, _⟩ := h
    rfl
  · obtain ⟨b, a, xs, rfl, hb, nab, ha, l0, l1, k⟩ := h
    refine ⟨_, (pss_one (ps_ret (pe_ix ix_list (pv 1) (pe_own o_law_take (hr.mono (by decide)) (pa_cons (pv 0) (pa_cons (pe_callB call_len_seq (by rfl) T.len PySem.boot_len (pa_cons (pv 1) pa_nil)) pa_nil))) (fun _ _ => rfl)))), ?_⟩
    walk_at "s"
    refine ⟨by omega, hb, fun H1 n hn s1 b1 => ?_⟩
    have ha1 := s1 _ _ nab ha
    have hx : xs[n]? = some xs[n] := List.getElem?_eq_getElem hn
    refine ⟨_, _, _, _, rfl, rfl, SqL.of ha1, atI_nat hx, ?_⟩
    exact k _ _ (List.getElem_mem hn) s1 b1
end
end My

namespace My
open PySem PySem.Spec PyProof.Rows L2
local macro_rules | `(tactic| walk_at "side") => `(tactic| first | (dsimp only; omega) | exact ⟨by omega, by omega⟩ | exact Or.inl ⟨by omega, by omega⟩ | exact Or.inr ⟨by omega, by omega⟩ | decide)
local macro_rules | `(tactic| walk_at "sq") => `(tactic| first | assumption | exact SqL.of (by assumption) | exact SqT.of (by assumption) | (refine L2.Same.seq (by assumption) ?_; walk_at "sq") | (refine L2.Same.seqT (by assumption) ?_; walk_at "sq") | exact Or.inl (by walk_at "sq") | exact Or.inr (by walk_at "sq"))
local macro_rules | `(tactic| walk_at "1") => `(tactic| first
  | refine ⟨_, rfl, iteT ?_⟩
  | refine ⟨_, rfl, iteF ?_⟩
  | refine ⟨_, rfl, ?_⟩
  | refine ⟨_, _, rfl, rfl, (by walk_at "side"), ?_⟩
  | refine ⟨_, _, rfl, rfl, ?_⟩
  | refine ⟨_, _, _, _, true, rfl, .ty _, .base (.int _), kit_ty (a := "int") (by decide +kernel), ?_⟩
  | refine ⟨_, _, _, _, false, rfl, .ty _, .base (.int _), kit_ty (a := "int") (by decide +kernel), ?_⟩
  | refine ⟨_, _, rfl, (by walk_at "sq"), ?_⟩
  | refine ⟨_, _, _, _, rfl, rfl, (by walk_at "sq"), (by first | rfl | assumption), ?_⟩
  | refine Or.inl ⟨_, _, _, _, rfl, rfl, (by walk_at "sq"), (by first | rfl | assumption), ?_⟩
  | refine Or.inr (Or.inl ⟨_, _, _, _, rfl, rfl, (by walk_at "sq"), (by first | rfl | assumption), ?_⟩)
  | refine ⟨_, _, rfl, Or.inl ⟨(by walk_at "sq"), ?_⟩⟩
  | refine ⟨rfl, ?_⟩
  | refine iteT ?_
  | refine iteF ?_
  | refine ⟨_, _, _, _, _, rfl, (by assumption), (by assumption), (by assumption), (by assumption), ?_⟩
  | refine Or.inl ⟨_, rfl, ?_⟩
  | refine Or.inr ⟨_, rfl, ?_⟩
  | refine ⟨_, _, rfl, (by walk_at "side"), ?_⟩
  | refine ⟨_, _, rfl, ?_⟩)
local macro_rules | `(tactic| walk_at "fld") => `(tactic| skip)
local macro_rules | `(tactic| walk_at "s") => `(tactic| repeat walk_at "1")
local macro_rules | `(tactic| walk_at "size") => `(tactic| first | exact Nat.le_of_ble_eq_true rfl | (simp only [List.length_map, List.length_append, List.length_cons, List.length_nil]; omega))
local macro_rules | `(tactic| walk_at "new") => `(tactic| (first | refine ⟨(by walk_at "size"), fun p hp => ?_⟩ | refine fun p hp => ?_); (generalize hq : upd _ p _ = H1); (obtain ⟨s, e⟩ := new_facts hp hq); clear hq)

/-- a check of one thing -/
def spD (f : PyData → Bool) : Sp := fun vs H Q _ => ∃ (v : V) (d : PyData), vs = [v] ∧ Dv H v d ∧ ∀ H', Same H H' → Q (.bl (f d)) H'
section
variable {P : Program} {w : World} {K : PySem.W.Frag} {mg : Str → Option Value} {base : Heap}
abbrev s_is_integer : Stmt := topS 6
theorem sc_is_integer : FnScope ["value"] ["value"] (defScope s_is_integer) := ⟨rfl, rfl, rfl, by decide +kernel, rfl, by decide +kernel, by decide +kernel⟩
theorem ok_is_integer (D : Df K mg "is_integer" s_is_integer ["value"]) (T : Txt mg) : Own P w K mg base "is_integer" 1 ["value"] (spD isIntD) := by
  refine D.own sc_is_integer (fun vs H Q E h => ?_) (fun f cdv A outer s H vs Q E hr h => ?_)
  · obtain ⟨_, _, rfl, _⟩ := h
    rfl
  · obtain ⟨v, d, rfl, hv, k⟩ := h
    refine ⟨_, (pss_one (ps_ret (pe_and (pe_callB call_isi (by rfl) T.isinstance (by decide +kernel) (pa_cons (pv 0) (pa_cons (pe_bltn (v := .ty "int") (u := .type "int") (by rfl) T.int (by decide +kernel) rfl) pa_nil))) (pe_one (pe_not (pe_callB call_isi (by rfl) T.isinstance (by decide +kernel) (pa_cons (pv 0) (pa_cons (pe_bltn (v := .ty "bool") (u := .type "bool") (by rfl) T.bool (by decide +kernel) rfl) pa_nil)))))))), ?_⟩
    refine ⟨_, rfl, _, _, _, _, _, rfl, .ty _, hv.ty, kit_ty (kb_int d), _, rfl, ?_⟩
    cases d with
    | int i =>
      refine iteT ?_
      exact ⟨_, rfl, _, _, _, _, _, rfl, .ty _, hv.ty, kit_ty (kb_bool _), false, rfl, k _ (Same.refl _)⟩
    | bool b =>
      refine iteT ?_
      exact ⟨_, rfl, _, _, _, _, _, rfl, .ty _, hv.ty, kit_ty (kb_bool _), true, rfl, k _ (Same.refl _)⟩
    | _ =>
      refine iteF ?_
      exact k _ (Same.refl _)
abbrev s_is_number : Stmt := topS 7
theorem sc_is_number : FnScope ["value"] ["value"] (defScope s_is_number) := ⟨rfl, rfl, rfl, by decide +kernel, rfl, by decide +kernel, by decide +kernel⟩
theorem ok_is_number (D : Df K mg "is_number" s_is_number ["value"]) (o_is_integer : Own P w K mg base "is_integer" 1 ["value"] (spD isIntD)) : Own P w K mg base "is_number" 2 ["value"] (spD isNumD) := by
  refine D.own sc_is_number (fun vs H Q E h => ?_) (fun f cdv A outer s H vs Q E hr h => ?_)
  · obtain ⟨_, _, rfl, _⟩ := h
    rfl
  · obtain ⟨v, d, rfl, hv, k⟩ := h
    refine ⟨_, (pss_one (ps_ret (pe_and (pe_own o_is_integer (hr.mono (by decide)) (pa_cons (pv 0) pa_nil)) (pe_one (pe_cmpR op_ge (pv 0) pe_int (nomark _)))))), ?_⟩
    refine ⟨_, rfl, _, d, rfl, hv, fun H1 s1 => ⟨_, rfl, ?_⟩⟩
    cases d with
    | int i =>
      cases hv
      refine iteT ?_
      exact ⟨_, rfl, _, _, rfl, rfl, k _ s1⟩
    | _ =>
      refine iteF ?_
      exact k _ s1
abbrev s_is_sequence : Stmt := topS 8
theorem sc_is_sequence : FnScope ["value"] ["value"] (defScope s_is_sequence) := ⟨rfl, rfl, rfl, by decide +kernel, rfl, by decide +kernel, by decide +kernel⟩
theorem ok_is_sequence (D : Df K mg "is_sequence" s_is_sequence ["value"]) (T : Txt mg) : Own P w K mg base "is_sequence" 1 ["value"] (spD isSeqD) := by
  refine D.own sc_is_sequence (fun vs H Q E h => ?_) (fun f cdv A outer s H vs Q E hr h => ?_)
  · obtain ⟨_, _, rfl, _⟩ := h
    rfl
  · obtain ⟨v, d, rfl, hv, k⟩ := h
    refine ⟨_, (pss_one (ps_ret (pe_callB call_isiT (by rfl) T.isinstance (by decide +kernel) (pa_cons (pv 0) (pa_cons (pe_tup (pa_cons (pe_bltn (v := .ty "list") (by rfl) T.list (by decide +kernel) rfl) (pa_cons (pe_bltn (v := .ty "tuple") (by rfl) T.tuple (by decide +kernel) rfl) pa_nil))) pa_nil))))), ?_⟩
    refine ⟨_, rfl, Nat.le_of_ble_eq_true rfl, fun p np => ?_⟩
    generalize hq : upd H p _ = H1
    obtain ⟨s1, e1⟩ := new_facts np hq
    exact rd_seq (hv.same s1) e1 (k _ s1)
abbrev s_is_tuple_of : Stmt := topS 9
theorem sc_is_tuple_of : FnScope ["value", "many"] ["value", "many"] (defScope s_is_tuple_of) := ⟨rfl, rfl, rfl, by decide +kernel, rfl, by decide +kernel, by decide +kernel⟩
def spTupOf : Sp := fun vs H Q _ => ∃ (v : V) (d : PyData) (n : Int), vs = [v, .int n] ∧ Dv H v d ∧ ∀ H', Same H H' → Q (.bl (isTupND n d)) H'
theorem ok_is_tuple_of (D : Df K mg "is_tuple_of" s_is_tuple_of ["value", "many"]) (T : Txt mg) : Own P w K mg base "is_tuple_of" 1 ["value", "many"] spTupOf := by
  refine D.own sc_is_tuple_of (fun vs H Q E h => ?_) (fun f cdv A outer s H vs Q E hr h => ?_)
  · obtain ⟨_, _, _, rfl, _⟩ := h
    rfl
  · obtain ⟨v, d, n, rfl, hv, k⟩ := h
    refine ⟨_, (pss_one (ps_ret (pe_and (pe_callB call_isi (by rfl) T.isinstance (by decide +kernel) (pa_cons (pv 0) (pa_cons (pe_bltn (v := .ty "tuple") (u := .type "tuple") (by rfl) T.tuple (by decide +kernel) rfl) pa_nil))) (pe_one (pe_cmpR op_eq (pe_callB call_len_seq (by rfl) T.len PySem.boot_len (pa_cons (pv 0) pa_nil)) (pv 1) (nomark _)))))), ?_⟩
    refine ⟨_, rfl, _, _, _, _, _, rfl, .ty _, hv.ty, kit_ty (kb_tuple d), _, rfl, ?_⟩
    cases d with
    | tuple ds =>
      cases hv with
      | @tup a xs _ e h sm =>
        refine iteT ?_
        refine ⟨_, rfl, a, xs, rfl, Or.inr (SqT.of e), _, rfl, rfl, ?_⟩
        have := k H (Same.refl _)
        rw [show (decide (V.int (xs.length : Int) = V.int n)) = isTupND n (.tuple ds) by
          rw [h.len]
          exact decide_eq_decide.mpr ⟨V.int.inj, fun q => by rw [q]⟩]
        exact this
    | _ =>
      refine iteF ?_
      exact k _ (Same.refl _)
end
end My

namespace My
open PySem PySem.Spec PyProof.Rows L2
local macro_rules | `(tactic| walk_at "side") => `(tactic| first | (dsimp only; omega) | exact ⟨by omega, by omega⟩ | exact Or.inl ⟨by omega, by omega⟩ | exact Or.inr ⟨by omega, by omega⟩ | decide)
local macro_rules | `(tactic| walk_at "sq") => `(tactic| first | assumption | exact SqL.of (by assumption) | exact SqT.of (by assumption) | (refine L2.Same.seq (by assumption) ?_; walk_at "sq") | (refine L2.Same.seqT (by assumption) ?_; walk_at "sq") | exact Or.inl (by walk_at "sq") | exact Or.inr (by walk_at "sq"))
local macro_rules | `(tactic| walk_at "1") => `(tactic| first
  | refine ⟨_, rfl, iteT ?_⟩
  | refine ⟨_, rfl, iteF ?_⟩
  | refine ⟨_, rfl, ?_⟩
  | refine ⟨_, _, rfl, rfl, (by walk_at "side"), ?_⟩
  | refine ⟨_, _, rfl, rfl, ?_⟩
  | refine ⟨_, _, _, _, true, rfl, .ty _, .base (.int _), kit_ty (a := "int") (by decide +kernel), ?_⟩
  | refine ⟨_, _, _, _, false, rfl, .ty _, .base (.int _), kit_ty (a := "int") (by decide +kernel), ?_⟩
  | refine ⟨_, _, rfl, (by walk_at "sq"), ?_⟩
  | refine ⟨_, _, _, _, rfl, rfl, (by walk_at "sq"), (by first | rfl | assumption), ?_⟩
  | refine Or.inl ⟨_, _, _, _, rfl, rfl, (by walk_at "sq"), (by first | rfl | assumption), ?_⟩
  | refine Or.inr (Or.inl ⟨_, _, _, _, rfl, rfl, (by walk_at "sq"), (by first | rfl | assumption), ?_⟩)
  | refine ⟨_, _, rfl, Or.inl ⟨(by walk_at "sq"), ?_⟩⟩
  | refine ⟨rfl, ?_⟩
  | refine iteT ?_
  | refine iteF ?_
  | refine ⟨_, _, _, _, _, rfl, (by assumption), (by assumption), (by assumption), (by assumption), ?_⟩
  | refine Or.inl ⟨_, rfl, ?_⟩
  | refine Or.inr ⟨_, rfl, ?_⟩
  | refine ⟨_, _, rfl, (by walk_at "side"), ?_⟩
  | refine ⟨_, _, rfl, ?_⟩)
local macro_rules | `(tactic| walk_at "fld") => `(tactic| skip)
local macro_rules | `(tactic| walk_at "s") => `(tactic| repeat walk_at "1")
local macro_rules | `(tactic| walk_at "size") => `(tactic| first | exact Nat.le_of_ble_eq_true rfl | (simp only [List.length_map, List.length_append, List.length_cons, List.length_nil]; omega))
local macro_rules | `(tactic| walk_at "new") => `(tactic| (first | refine ⟨(by walk_at "size"), fun p hp => ?_⟩ | refine fun p hp => ?_); (generalize hq : upd _ p _ = H1); (obtain ⟨s, e⟩ := new_facts hp hq); clear hq)
/-! steps -/
def isNonD : PyData → Bool
  | .none => true
  | _ => false
def isStepD : PyData → Bool
  | .tuple [a, b] => isIntD a && isNumD b
  | _ => false
def isEndlD : PyData → Bool
  | .tuple [a, b] => isIntD a && isNonD b
  | _ => false
theorem isTupN2 {d : PyData} (h : isTupND 2 d = true) : ∃ a b, d = .tuple [a, b] := by
  cases d with
  | tuple ds =>
    have l : (ds.length : Int) = 2 := of_decide_eq_true h
    match ds, l with
    | [a, b], _ => exact ⟨a, b, rfl⟩
    | [], l => simp at l
    | [_], l => simp at l
    | _ :: _ :: _ :: r, l => simp only [List.length_cons] at l; omega
  | _ => cases h
theorem isTupN2_no {d : PyData} (h : isTupND 2 d = false) : isStepD d = false ∧ isEndlD d = false := by
  cases d with
  | tuple ds =>
    match ds with
    | [a, b] => exact absurd h (by simp [isTupND])
    | [] => exact ⟨rfl, rfl⟩
    | [_] => exact ⟨rfl, rfl⟩
    | _ :: _ :: _ :: _ => exact ⟨rfl, rfl⟩
  | _ => exact ⟨rfl, rfl⟩
theorem Dv.nonB {H : Hp} {v : V} {d : PyData} (h : Dv H v d) : decide (v = .non) = isNonD d := by
  cases h <;> rfl
section
variable {P : Program} {w : World} {K : PySem.W.Frag} {mg : Str → Option Value} {base : Heap}
abbrev s_is_step : Stmt := topS 20
theorem sc_is_step : FnScope ["step"] ["step"] (defScope s_is_step) := ⟨rfl, rfl, rfl, by decide +kernel, rfl, by decide +kernel, by decide +kernel⟩
theorem ok_is_step (D : Df K mg "_is_step" s_is_step ["step"]) (o_is_tuple_of : Own P w K mg base "is_tuple_of" 1 ["value", "many"] spTupOf) (o_is_integer : Own P w K mg base "is_integer" 1 ["value"] (spD isIntD)) (o_is_number : Own P w K mg base "is_number" 2 ["value"] (spD isNumD)) : Own P w K mg base "_is_step" 3 ["step"] (spD isStepD) := by
  refine D.own sc_is_step (fun vs H Q E h => ?_) (fun f cdv A outer s H vs Q E hr h => ?_)
  · obtain ⟨_, _, rfl, _⟩ := h
    rfl
  · obtain ⟨v, d, rfl, hv, k⟩ := h
    refine ⟨_, (pss_one (ps_ret (pe_and (pe_own o_is_tuple_of (hr.mono (by decide)) (pa_cons (pv 0) (pa_cons pe_int pa_nil))) (pe_and (pe_own o_is_integer (hr.mono (by decide)) (pa_cons (pe_ix ix_tup (pv 0) pe_int (fun _ _ => rfl)) pa_nil)) (pe_one (pe_own o_is_number (hr.mono (by decide)) (pa_cons (pe_ix ix_tup (pv 0) pe_int (fun _ _ => rfl)) pa_nil))))))), ?_⟩
    refine ⟨_, rfl, v, d, 2, rfl, hv, fun H1 s1 => ⟨_, rfl, ?_⟩⟩
    cases ht : isTupND 2 d with
    | false =>
      refine iteF ?_
      rw [← (isTupN2_no ht).1]
      exact k _ s1
    | true =>
      refine iteT ?_
      obtain ⟨a, b, rfl⟩ := isTupN2 ht
      have hv1 := hv.same s1
      cases hv1 with
      | @tup p xs _ ep hx sm =>
        obtain ⟨x1, ys, rfl, d1, hx⟩ := hx.inv
        obtain ⟨x2, ys, rfl, d2, hx⟩ := hx.inv
        obtain rfl := hx.inv0
        refine ⟨_, rfl, _, _, _, _, rfl, rfl, SqT.of ep, rfl, ?_⟩
        refine ⟨_, a, rfl, d1, fun H2 s2 => ⟨_, rfl, ?_⟩⟩
        cases h1 : isIntD a with
        | false =>
          refine iteF ?_
          have := k _ (s1.trans s2)
          rw [show isStepD (.tuple [a, b]) = (isIntD a && isNumD b) from rfl, h1] at this
          exact this
        | true =>
          refine iteT ?_
          refine ⟨_, rfl, _, _, _, _, rfl, rfl, SqT.of (s2 _ _ ep), rfl, ?_⟩
          refine ⟨_, b, rfl, d2.same s2, fun H3 s3 => ?_⟩
          have := k _ (s1.trans (s2.trans s3))
          rw [show isStepD (.tuple [a, b]) = (isIntD a && isNumD b) from rfl, h1] at this
          exact this
abbrev s_is_endless_step : Stmt := topS 21
theorem sc_is_endless_step : FnScope ["step"] ["step"] (defScope s_is_endless_step) := ⟨rfl, rfl, rfl, by decide +kernel, rfl, by decide +kernel, by decide +kernel⟩
theorem ok_is_endless_step (D : Df K mg "_is_endless_step" s_is_endless_step ["step"]) (o_is_tuple_of : Own P w K mg base "is_tuple_of" 1 ["value", "many"] spTupOf) (o_is_integer : Own P w K mg base "is_integer" 1 ["value"] (spD isIntD)) : Own P w K mg base "_is_endless_step" 3 ["step"] (spD isEndlD) := by
  refine D.own sc_is_endless_step (fun vs H Q E h => ?_) (fun f cdv A outer s H vs Q E hr h => ?_)
  · obtain ⟨_, _, rfl, _⟩ := h
    rfl
  · obtain ⟨v, d, rfl, hv, k⟩ := h
    refine ⟨_, (pss_one (ps_ret (pe_and (pe_own o_is_tuple_of (hr.mono (by decide)) (pa_cons (pv 0) (pa_cons pe_int pa_nil))) (pe_and (pe_own o_is_integer (hr.mono (by decide)) (pa_cons (pe_ix ix_tup (pv 0) pe_int (fun _ _ => rfl)) pa_nil)) (pe_one (pe_cmpR op_isN (pe_ix ix_tup (pv 0) pe_int (fun _ _ => rfl)) pe_non (nomark _))))))), ?_⟩
    refine ⟨_, rfl, v, d, 2, rfl, hv, fun H1 s1 => ⟨_, rfl, ?_⟩⟩
    cases ht : isTupND 2 d with
    | false =>
      refine iteF ?_
      rw [← (isTupN2_no ht).2]
      exact k _ s1
    | true =>
      refine iteT ?_
      obtain ⟨a, b, rfl⟩ := isTupN2 ht
      have hv1 := hv.same s1
      cases hv1 with
      | @tup p xs _ ep hx sm =>
        obtain ⟨x1, ys, rfl, d1, hx⟩ := hx.inv
        obtain ⟨x2, ys, rfl, d2, hx⟩ := hx.inv
        obtain rfl := hx.inv0
        refine ⟨_, rfl, _, _, _, _, rfl, rfl, SqT.of ep, rfl, ?_⟩
        refine ⟨_, a, rfl, d1, fun H2 s2 => ⟨_, rfl, ?_⟩⟩
        cases h1 : isIntD a with
        | false =>
          refine iteF ?_
          have := k _ (s1.trans s2)
          rw [show isEndlD (.tuple [a, b]) = (isIntD a && isNonD b) from rfl, h1] at this
          exact this
        | true =>
          refine iteT ?_
          refine ⟨_, rfl, _, _, _, _, rfl, rfl, SqT.of (s2 _ _ ep), rfl, ?_⟩
          refine ⟨rfl, ?_⟩
          rw [d2.nonB]
          have := k _ (s1.trans s2)
          rw [show isEndlD (.tuple [a, b]) = (isIntD a && isNonD b) from rfl, h1] at this
          exact this
end
/-! ### steps as data -/
def cD : Option Int → PyData
  | none => .none
  | some i => .int i
/-- a time (or nothing) and a count (or endless) -/
def prD (x : Option Int × Option Int) : PyData := .tuple [cD x.1, cD x.2]
abbrev Stp := Int × Option Int
def stD (x : Stp) : PyData := .tuple [.int x.1, cD x.2]
def prO (x : Stp) : Option Int × Option Int := (some x.1, x.2)
def cV : Option Int → V
  | none => .non
  | some i => .int i
theorem dv_c {H : Hp} {v : V} {c : Option Int} (h : Dv H v (cD c)) : v = cV c := by
  cases c with
  | none => cases h; rfl
  | some i => cases h; rfl
theorem cV_dv {H : Hp} (c : Option Int) : Dv H (cV c) (cD c) := by
  cases c with
  | none => exact .non
  | some i => exact .int i
theorem dv_pr {H : Hp} {v : V} {x : Option Int × Option Int} (h : Dv H v (prD x)) : ∃ p, v = .ref p ∧ H p = some (.tup [cV x.1, cV x.2]) := by
  cases h with
  | @tup p xs _ ep hx sm =>
    obtain ⟨x1, ys, rfl, d1, hx⟩ := hx.inv
    obtain ⟨x2, ys, rfl, d2, hx⟩ := hx.inv
    obtain rfl := hx.inv0
    rw [dv_c d1, dv_c d2] at ep
    exact ⟨p, rfl, ep⟩
theorem st_pr (x : Stp) : stD x = prD (prO x) := rfl
theorem pr_dv {H : Hp} {p : Addr} {x : Option Int × Option Int} (h : H p = some (.tup [cV x.1, cV x.2])) : Dv H (.ref p) (prD x) := .tup h (.cons (cV_dv _) (.cons (cV_dv _) .nil)) (by show 2 ≤ 2000; decide)
/-- whether times and counts rise from one on -/
def upC : Option Int → Option Int → Bool
  | none, _ => false
  | some _, none => true
  | some c, some c' => decide (c < c')
def upT : Option Int → Int → Bool
  | none, _ => true
  | some t, t' => decide (t < t')
def riseF : Option Int × Option Int → List Stp → Bool
  | _, [] => true
  | x, y :: r => upC x.2 y.2 && (upT x.1 y.1 && riseF (prO y) r)
def spRise : Sp := fun vs H Q _ => ∃ (a : Addr) (x : V) (xs : List V) (d : Option Int × Option Int) (ds : List Stp), vs = [.ref a] ∧ H a = some (.lst (x :: xs)) ∧ Dv H x (prD d) ∧ DvAll H xs (ds.map stD) ∧ ds.length ≤ 2000 ∧ ∀ H', Same H H' → Q (.bl (riseF d ds)) H'
theorem cV_non (c : Option Int) : decide (cV c = .non) = c.isNone := by cases c <;> rfl
section
variable {P : Program} {w : World} {K : PySem.W.Frag} {mg : Str → Option Value} {base : Heap}
abbrev s_rise : Stmt := topS 22
theorem sc_rise : FnScope ["steps", "time", "told", "later_time", "later_told"] ["steps"] (defScope s_rise) := ⟨rfl, rfl, rfl, by decide +kernel, rfl, by decide +kernel, by decide +kernel⟩
set_option maxHeartbeats 8000000 in
theorem ok_rise (D : Df K mg "_rise" s_rise ["steps"]) (T : Txt mg) : Own P w K mg base "_rise" 1 ["steps"] spRise := by
  refine D.own sc_rise (fun vs H Q E h => ?_) (fun f cdv A outer s H vs Q E hr h => ?_)
  · obtain ⟨_, _, _, _, _, rfl, _⟩ := h
    rfl
  · obtain ⟨a, x0, xs, d0, ds, rfl, ha, h0, hds, hlen, k⟩ := h
    refine ⟨_, (pss_cons (ps_for PassesOwn.never rfl (pi_zip (by rfl) T.zip (pa_cons (pv 0) (pa_cons (pe_slice sl_list (pv 0) (po_some pe_int) po_none) pa_nil))) (pg_tup (by rfl) (pgs_cons (pg_tup (by rfl) (pgs_cons (pg_name (i := 1) sc_rise.nd rfl (Or.inl rfl)) (pgs_cons (pg_name (i := 2) sc_rise.nd rfl (Or.inl rfl)) pgs_nil))) (pgs_cons (pg_tup (by rfl) (pgs_cons (pg_name (i := 3) sc_rise.nd rfl (Or.inl rfl)) (pgs_cons (pg_name (i := 4) sc_rise.nd rfl (Or.inl rfl)) pgs_nil))) pgs_nil)))
    (pss_cons (ps_if (PW.pt (pw_or (pt_cmpR op_isN (pv 2) pe_non (nomark _)) (pw_or1 (PW.pt (pw_and (pt_cmpR op_notN (pv 4) pe_non (nomark _)) (pw_and1 (pt_cmpR op_le (pv 4) (pv 2) (nomark _))))))))
        (pss_one (ps_ret pe_bl))
        pss_nil)
      (pss_one (ps_if (PW.pt (pw_and (pt_cmpR op_notN (pv 1) pe_non (nomark _)) (pw_and1 (pt_cmpR op_le (pv 3) (pv 1) (nomark _)))))
        (pss_one (ps_ret pe_bl))
        pss_nil))))
  (pss_one (ps_ret pe_bl))), ?_⟩
    have hl := hds.len
    rw [List.length_map] at hl
    refine ⟨_, rfl, _, rfl, _, rfl, a, _, rfl, SqL.of ha, ?_⟩
    walk_at "new"
    rename_i p np H1 s1 e1
    have ecut : cutV (x0 :: xs) (some (1 : Int)) none = xs := by
      unfold cutV
      rw [show (1 : Int) = ((1 : Nat) : Int) from rfl, HT.sIx_nat, HT.sIx_none, Nat.min_eq_left (by rw [List.length_cons]; omega)]
      exact List.take_of_length_le (by rw [List.length_drop]; omega)
    rw [ecut] at e1
    refine ⟨a, p, _, _, rfl, SqL.of (s1 _ _ ha), SqL.of e1, for_it (walk_zip (xs := x0 :: xs) (ys := xs) (n := xs.length) (by simp only [List.length_cons]; omega)) (fun i σ H' => ∃ (d : Option Int × Option Int) (x : V) (y1 y2 y3 y4 : Option V), σ = [some (.ref a), y1, y2, y3, y4] ∧ Same H1 H' ∧ (x0 :: xs)[i]? = some x ∧ Dv H' x (prD d) ∧ riseF d (ds.drop i) = riseF d0 ds)
      ⟨d0, x0, none, none, none, none, rfl, Same.refl _, rfl, h0.same s1, rfl⟩ (fun i σ H' _ ⟨_, _, _, _, _, _, _, s', _⟩ => ⟨SqL.of (s' _ _ (s1 _ _ ha)), SqL.of (s' _ _ e1)⟩) ?_ ?_⟩
    · rintro i v σ H' H2 hi ⟨d, x, y1, y2, y3, y4, rfl, s', hx, hd, er⟩ ⟨Tp, u, v', rfl, nT, rfl, hu, hv⟩
      have hxu : u = x := Option.some.inj (hu.symm.trans hx)
      subst hxu
      obtain ⟨dv, ed, hdv0⟩ := (hds.same (s1.trans s')).get hv
      rw [List.getElem?_map] at ed
      obtain ⟨y, ey, rfl⟩ := Option.map_eq_some_iff.mp ed
      have s2 : Same H' (upd H' Tp (.tup [u, v'])) := same_upd nT
      obtain ⟨q1, rfl, g1⟩ := dv_pr (hd.same s2)
      obtain ⟨q2, rfl, g2⟩ := dv_pr (x := prO y) (hdv0.same s2)
      have eT : upd H' Tp (.tup [.ref q1, .ref q2]) Tp = some (.tup [.ref q1, .ref q2]) := upd_same
      have hdrop : ds.drop i = y :: ds.drop (i + 1) := by
        obtain ⟨q, rfl⟩ := List.getElem?_eq_some_iff.mp ey
        exact List.drop_eq_getElem_cons q
      rw [hdrop] at er
      generalize upd H' Tp (.tup [.ref q1, .ref q2]) = H3 at s2 g1 g2 eT ⊢
      have s3 : Same H1 H3 := s'.trans s2
      obtain ⟨t, c⟩ := d
      obtain ⟨t2, c2⟩ := y
      have nxt : ∀ (y1 y2 y3 y4 : Option V), riseF (some t2, c2) (ds.drop (i + 1)) = riseF d0 ds → ∃ (d : Option Int × Option Int) (x : V) (z1 z2 z3 z4 : Option V), [some (V.ref a), y1, y2, y3, y4] = [some (V.ref a), z1, z2, z3, z4] ∧ Same H1 H3 ∧ (x0 :: xs)[i + 1]? = some x ∧ Dv H3 x (prD d) ∧ riseF d (ds.drop (i + 1)) = riseF d0 ds := fun y1 y2 y3 y4 q =>
        ⟨(some t2, c2), .ref q2, y1, y2, y3, y4, rfl, s3, hv, pr_dv g2, q⟩
      have no : false = riseF d0 ds → Q (.bl false) H3 := fun q => by
        have := k _ (s1.trans s3)
        rw [← q] at this
        exact this
      refine ⟨Tp, _, rfl, SqT.of eT, rfl, _, _, rfl, ⟨q1, _, rfl, SqT.of g1, rfl, _, _, rfl, _, _, rfl, rfl, ?_⟩⟩
      refine ⟨_, _, rfl, ⟨q2, _, rfl, SqT.of g2, rfl, _, _, rfl, _, _, rfl, rfl, rfl, ?_⟩⟩
      cases c with
      | none =>
        walk_at "s"
        exact no er
      | some c =>
        have last : upC (some c) c2 = true → (upT t t2 && riseF (some t2, c2) (ds.drop (i + 1))) = riseF d0 ds := fun q => by
          rw [← er]
          show _ = (upC (some c) c2 && (upT t t2 && riseF (some t2, c2) (ds.drop (i + 1))))
          rw [q]
          rfl
        cases c2 with
        | none =>
          walk_at "s"
          cases t with
          | none =>
            walk_at "s"
            exact nxt _ _ _ _ (last rfl)
          | some t =>
            walk_at "s"
            have l := last rfl
            refine ite2 (fun c => ?_) (fun c => ?_)
            · have c' : t2 ≤ t := of_decide_eq_true c
              refine no ?_
              rw [← l, show upT (some t) t2 = false from decide_eq_false (by omega)]
              rfl
            · have c' : ¬ t2 ≤ t := fun q => c (decide_eq_true q)
              refine nxt _ _ _ _ ?_
              rw [← l, show upT (some t) t2 = true from decide_eq_true (by omega)]
              rfl
        | some c2 =>
          walk_at "s"
          refine ite2 (fun e => ?_) (fun e => ?_)
          · have e' : c2 ≤ c := of_decide_eq_true e
            refine no ?_
            rw [← er]
            show false = (decide (c < c2) && _)
            rw [decide_eq_false (by omega)]
            rfl
          · have e' : ¬ c2 ≤ c := fun q => e (decide_eq_true q)
            have l := last (decide_eq_true (by omega))
            walk_at "s"
            cases t with
            | none =>
              walk_at "s"
              exact nxt _ _ _ _ l
            | some t =>
              walk_at "s"
              refine ite2 (fun c => ?_) (fun c => ?_)
              · have c' : t2 ≤ t := of_decide_eq_true c
                refine no ?_
                rw [← l, show upT (some t) t2 = false from decide_eq_false (by omega)]
                rfl
              · have c' : ¬ t2 ≤ t := fun q => c (decide_eq_true q)
                refine nxt _ _ _ _ ?_
                rw [← l, show upT (some t) t2 = true from decide_eq_true (by omega)]
                rfl
    · rintro σ H' ⟨d, x, y1, y2, y3, y4, rfl, s', hx, hd, er⟩
      rw [List.drop_eq_nil_of_le (by omega)] at er
      have er' : true = riseF d0 ds := er
      rw [← er'] at k
      exact k _ (s1.trans s')
end
end My

namespace My
open PySem PySem.Spec PyProof.Rows L2
local macro_rules | `(tactic| walk_at "side") => `(tactic| first | (dsimp only; omega) | exact ⟨by omega, by omega⟩ | exact Or.inl ⟨by omega, by omega⟩ | exact Or.inr ⟨by omega, by omega⟩ | decide)
local macro_rules | `(tactic| walk_at "sq") => `(tactic| first | assumption | exact SqL.of (by assumption) | exact SqT.of (by assumption) | (refine L2.Same.seq (by assumption) ?_; walk_at "sq") | (refine L2.Same.seqT (by assumption) ?_; walk_at "sq") | exact Or.inl (by walk_at "sq") | exact Or.inr (by walk_at "sq"))
local macro_rules | `(tactic| walk_at "1") => `(tactic| first
  | refine ⟨_, rfl, iteT ?_⟩
  | refine ⟨_, rfl, iteF ?_⟩
  | refine ⟨_, rfl, ?_⟩
  | refine ⟨_, _, rfl, rfl, (by walk_at "side"), ?_⟩
  | refine ⟨_, _, rfl, rfl, ?_⟩
  | refine ⟨_, _, _, _, true, rfl, .ty _, .base (.int _), kit_ty (a := "int") (by decide +kernel), ?_⟩
  | refine ⟨_, _, _, _, false, rfl, .ty _, .base (.int _), kit_ty (a := "int") (by decide +kernel), ?_⟩
  | refine ⟨_, _, rfl, (by walk_at "sq"), ?_⟩
  | refine ⟨_, _, _, _, rfl, rfl, (by walk_at "sq"), (by first | rfl | assumption), ?_⟩
  | refine Or.inl ⟨_, _, _, _, rfl, rfl, (by walk_at "sq"), (by first | rfl | assumption), ?_⟩
  | refine Or.inr (Or.inl ⟨_, _, _, _, rfl, rfl, (by walk_at "sq"), (by first | rfl | assumption), ?_⟩)
  | refine ⟨_, _, rfl, Or.inl ⟨(by walk_at "sq"), ?_⟩⟩
  | refine ⟨rfl, ?_⟩
  | refine iteT ?_
  | refine iteF ?_
  | refine ⟨_, _, _, _, _, rfl, (by assumption), (by assumption), (by assumption), (by assumption), ?_⟩
  | refine Or.inl ⟨_, rfl, ?_⟩
  | refine Or.inr ⟨_, rfl, ?_⟩
  | refine ⟨_, _, rfl, (by walk_at "side"), ?_⟩
  | refine ⟨_, _, rfl, ?_⟩)
local macro_rules | `(tactic| walk_at "fld") => `(tactic| skip)
local macro_rules | `(tactic| walk_at "s") => `(tactic| repeat walk_at "1")
local macro_rules | `(tactic| walk_at "size") => `(tactic| first | exact Nat.le_of_ble_eq_true rfl | (simp only [List.length_map, List.length_append, List.length_cons, List.length_nil]; omega))
local macro_rules | `(tactic| walk_at "new") => `(tactic| (first | refine ⟨(by walk_at "size"), fun p hp => ?_⟩ | refine fun p hp => ?_); (generalize hq : upd _ p _ = H1); (obtain ⟨s, e⟩ := new_facts hp hq); clear hq)
/-! what is wrong with arguments -/
def cO : PyData → Option Int
  | .int i => some i
  | _ => none
def intD : PyData → Int
  | .int i => i
  | _ => 0
def stO : PyData → Stp
  | .tuple [a, b] => (intD a, cO b)
  | _ => (0, none)
def wU : Str := "under"
def wF : Str := "first"
def wA : Str := "again"
def wT : Str := "turn"
def wM : Str := "more"
def isFD (d : PyData) : Bool := isStepD d || isEndlD d
/-- with a last step, steps that come again, turn, more -/
def wordR (last : Option Int × Option Int) (as : List Stp) (t m : PyData) : Option Str :=
  match last.2 with
  | none => if 0 < as.length then some wA else if (isNumD t && decide (intD t ≤ 0)) = true then (if (isNumD m && decide (intD m = 0)) = true then none else some wM) else some wT
  | some _ => match as.head?, as.getLast? with
    | some x, some y => if riseF last as = true then (if (isNumD t && decide (y.1 - x.1 < intD t)) = true then (if (isNumD m && decide ((y.2.getD 0) - (x.2.getD 0) < intD m)) = true then none else some wM) else some wT) else some wA
    | _, _ => some wA
def wordA (u : PyData) (fs : List Stp) (a t m : PyData) : Option Str :=
  if (isSeqD a && (itemsD a).all isStepD) = true then wordR ((fs.getLast?.map prO).getD (none, cO u)) ((itemsD a).map stO) t m else some wA
/-- the first wrong argument -/
def wordT (u f a t m : PyData) : Option Str :=
  if (isNonD u || isNumD u) = true then
    if (isSeqD f && (itemsD f).all isFD) = true then
      if riseF (none, cO u) ((itemsD f).map stO) = true then wordA u ((itemsD f).map stO) a t m else some wF
    else some wF
  else some wU
def wv : Option Str → V
  | none => .non
  | some x => .str x
theorem int_eq {d : PyData} (h : isIntD d = true) : d = .int (intD d) := by
  cases d <;> first | rfl | cases h
theorem num_eq {d : PyData} (h : isNumD d = true) : d = .int (intD d) ∧ 0 ≤ intD d := by
  cases d <;> first | exact ⟨rfl, of_decide_eq_true h⟩ | cases h
theorem non_eq {d : PyData} (h : isNonD d = true) : d = .none := by
  cases d <;> first | rfl | cases h
theorem step_eq {d : PyData} (h : isStepD d = true) : d = stD (stO d) ∧ ∃ c, (stO d).2 = some c ∧ 0 ≤ c := by
  unfold isStepD at h
  split at h
  · obtain ⟨h1, h2⟩ := Bool.and_eq_true_iff.mp h
    obtain ⟨e2, n2⟩ := num_eq h2
    rename_i a b
    refine ⟨?_, intD b, ?_, n2⟩
    · show PyData.tuple [a, b] = .tuple [.int (intD a), cD (cO b)]
      rw [← int_eq h1]
      rw [e2]
      rfl
    · show cO b = _
      rw [e2]
      rfl
  · cases h
theorem endl_eq {d : PyData} (h : isEndlD d = true) : d = stD (stO d) := by
  unfold isEndlD at h
  split at h
  · obtain ⟨h1, h2⟩ := Bool.and_eq_true_iff.mp h
    rename_i a b
    show PyData.tuple [a, b] = .tuple [.int (intD a), cD (cO b)]
    rw [← int_eq h1, non_eq h2]
    rfl
  · cases h
theorem first_eq {d : PyData} (h : isFD d = true) : d = stD (stO d) := (Bool.or_eq_true_iff.mp h).elim (fun h => (step_eq h).1) endl_eq
theorem map_eqs {f : PyData → Bool} (g : ∀ d, f d = true → d = stD (stO d)) : ∀ {ds : List PyData}, ds.all f = true → ds = (ds.map stO).map stD
  | [], _ => rfl
  | d :: ds, h => by
    rw [List.all_cons, Bool.and_eq_true] at h
    rw [List.map_cons, List.map_cons, ← g d h.1, ← map_eqs g h.2]
theorem atI_neg1 {α : Type} {xs : List α} {v : α} (h : xs.getLast? = some v) : atI xs (-1) = some v := by
  obtain ⟨ys, rfl⟩ := List.getLast?_eq_some_iff.mp h
  exact atI_last ys v
theorem DvAll.last {H : Hp} : ∀ {ds : List PyData} {xs : List V} {d : PyData}, DvAll H xs (ds ++ [d]) → ∃ x, xs.getLast? = some x ∧ Dv H x d
  | [], xs, d, h => by
    obtain ⟨x, ys, rfl, h1, h2⟩ := h.inv
    rw [h2.inv0]
    exact ⟨x, rfl, h1⟩
  | e :: ds, xs, d, h => by
    obtain ⟨x, ys, rfl, h1, h2⟩ := DvAll.inv (ds := ds ++ [d]) h
    obtain ⟨y, e1, h3⟩ := DvAll.last h2
    refine ⟨y, ?_, h3⟩
    rw [List.getLast?_cons, e1]
    rfl
/-- xs[i][n] of a list or a tuple of pairs -/
theorem rd_pair {K : PySem.W.Frag} {H : Hp} {A q : Addr} {xs : List V} {i n : Int} {a b v : V} {σ : L2.St} {j : Nat} {ti : TE} {Q : VK} (hS : SqS K H A xs) (hv : σ[j]? = some (some (.ref A))) (ht : ∀ R : VK, R (.int i) H → ti σ H R) (hi : atI xs i = some (.ref q))
    (hq : H q = some (.tup [a, b])) (hn : atI [a, b] n = some v) (h : Q v H) : tOp (rIxT K) (fun σ H Q => tOp (rIxL K) (tVar j) ti σ H Q ∨ tOp (rIxT K) (tVar j) ti σ H Q) (tC (.int n)) σ H Q := by
  have fin : ∃ (a' : Addr) (xs : List V) (i : Int) (v : V), V.ref q = .ref a' ∧ V.int n = .int i ∧ SqT K H a' xs ∧ atI xs i = some v ∧ Q v H := ⟨q, _, n, v, rfl, rfl, SqT.of hq, hn, h⟩
  rcases hS with hS | hS
  · exact Or.inl ⟨_, hv, ht _ ⟨A, xs, i, _, rfl, rfl, hS, hi, fin⟩⟩
  · exact Or.inr ⟨_, hv, ht _ ⟨A, xs, i, _, rfl, rfl, hS, hi, fin⟩⟩
theorem DvAll.hd {H : Hp} {ds : List PyData} {xs : List V} {d : PyData} (h : DvAll H xs (d :: ds)) : ∃ x, atI xs 0 = some x ∧ Dv H x d := by
  obtain ⟨x, ys, rfl, h1, _⟩ := h.inv
  exact ⟨x, atI_nat (j := 0) rfl, h1⟩
def spWrongT : Sp := fun vs H Q _ => ∃ (v0 v1 v2 v3 v4 : V) (d0 d1 d2 d3 d4 : PyData), vs = [v0, v1, v2, v3, v4] ∧ Dv H v0 d0 ∧ Dv H v1 d1 ∧ Dv H v2 d2 ∧ Dv H v3 d3 ∧ Dv H v4 d4 ∧ ∀ H', Same H H' → Q (wv (wordT d0 d1 d2 d3 d4)) H'
theorem small2000 {n : Nat} (h : n ≤ 4000) : n < sizeLine := Nat.lt_of_le_of_lt h (by decide)
section
variable {P : Program} {w : World} {K : PySem.W.Frag} {mg : Str → Option Value} {base : Heap}
abbrev s_wrong_argument : Stmt := topS 19
theorem sc_wrong_argument : FnScope ["under", "first", "again", "turn", "more", "last", "step"] ["under", "first", "again", "turn", "more"] (defScope s_wrong_argument) := ⟨rfl, rfl, rfl, by decide +kernel, rfl, by decide +kernel, by decide +kernel⟩
set_option maxHeartbeats 16000000 in
theorem ok_wrong (D : Df K mg "_wrong_argument" s_wrong_argument ["under", "first", "again", "turn", "more"]) (T : Txt mg) (o_is_number : Own P w K mg base "is_number" 2 ["value"] (spD isNumD)) (o_is_sequence : Own P w K mg base "is_sequence" 1 ["value"] (spD isSeqD))
    (o_is_step : Own P w K mg base "_is_step" 3 ["step"] (spD isStepD)) (o_is_endless_step : Own P w K mg base "_is_endless_step" 3 ["step"] (spD isEndlD)) (o_rise : Own P w K mg base "_rise" 1 ["steps"] spRise) : Own P w K mg base "_wrong_argument" 4 ["under", "first", "again", "turn", "more"] spWrongT := by
  refine D.own sc_wrong_argument (fun vs H Q E h => ?_) (fun f cdv A outer s H vs Q E hr h => ?_)
  · obtain ⟨_, _, _, _, _, _, _, _, _, _, rfl, _⟩ := h
    rfl
  · obtain ⟨v0, v1, v2, v3, v4, d0, d1, d2, d3, d4, rfl, h0, h1, h2, h3, h4, k⟩ := h
    refine ⟨_, (pss_cons (ps_if (PW.pt (pw_and (pt_cmpR op_notN (pv 0) pe_non (nomark _)) (pw_and1 (pt_not (pt_val (pe_own o_is_number (hr.mono (by decide)) (pa_cons (pv 0) pa_nil)))))))
    (pss_one (ps_ret pe_str))
    pss_nil)
  (pss_cons (ps_if (PW.pt (pw_or (pt_not (pt_val (pe_own o_is_sequence (hr.mono (by decide)) (pa_cons (pv 1) pa_nil)))) (pw_or1 (pt_not (pt_val (pe_callB (cr_all rfl) (by rfl) T.all (by decide +kernel) (pa_cons (pe_lc (own := [("step", 6)]) (g := gName 6) (tt := tYes) rfl sc_wrong_argument.nd (pi_alt (pi_list (pv 1)) (pi_tup (pv 1))) (blkOk_by (own := [("step", 6)]) (N := ["under", "first", "again", "turn", "more", "last", "step"]) (sc := defScope s_wrong_argument) (by decide +kernel)) (fun _ _ _ _ _ => (pg_name (i := 6) sc_wrong_argument.nd rfl (Or.inl rfl))) (fun _ _ _ _ _ => pts_nil) (fun _ _ _ _ _ => (pe_or (pe_own o_is_step (hr.mono (by decide)) (pa_cons (pv 6) pa_nil)) (pe_one (pe_own o_is_endless_step (hr.mono (by decide)) (pa_cons (pv 6) pa_nil)))))) pa_nil)))))))
    (pss_one (ps_ret pe_str))
    pss_nil)
  (pss_cons (ps_if (pt_not (pt_val (pe_own o_rise (hr.mono (by decide)) (pa_cons (pe_lst (pa_cons (pe_tup (pa_cons pe_non (pa_cons (pv 0) pa_nil))) (StX.pa_star (pv 1) pa_nil))) pa_nil))))
    (pss_one (ps_ret pe_str))
    pss_nil)
  (pss_cons (ps_if (PW.pt (pw_or (pt_not (pt_val (pe_own o_is_sequence (hr.mono (by decide)) (pa_cons (pv 2) pa_nil)))) (pw_or1 (pt_not (pt_val (pe_callB (cr_all rfl) (by rfl) T.all (by decide +kernel) (pa_cons (pe_lc (own := [("step", 6)]) (g := gName 6) (tt := tYes) rfl sc_wrong_argument.nd (pi_alt (pi_list (pv 2)) (pi_tup (pv 2))) (blkOk_by (own := [("step", 6)]) (N := ["under", "first", "again", "turn", "more", "last", "step"]) (sc := defScope s_wrong_argument) (by decide +kernel)) (fun _ _ _ _ _ => (pg_name (i := 6) sc_wrong_argument.nd rfl (Or.inl rfl))) (fun _ _ _ _ _ => pts_nil) (fun _ _ _ _ _ => (pe_own o_is_step (hr.mono (by decide)) (pa_cons (pv 6) pa_nil)))) pa_nil)))))))
    (pss_one (ps_ret pe_str))
    pss_nil)
  (C8.pss_cut (ps_set (i := 5) sc_wrong_argument.nd rfl (Or.inl rfl) (pe_ifExp (pt_cmpR op_gt (pe_callB call_len_seq (by rfl) T.len PySem.boot_len (pa_cons (pv 1) pa_nil)) pe_int (nomark _)) (pe_alt (pe_ix ix_list (pv 1) (pe_un un_neg pe_int) (fun _ _ => rfl)) (pe_ix ix_tup (pv 1) (pe_un un_neg pe_int) (fun _ _ => rfl))) (pe_tup (pa_cons pe_non (pa_cons (pv 0) pa_nil)))))
  (pss_cons (ps_if (pt_cmpR op_isN (pe_ix ix_tup (pv 5) pe_int (fun _ _ => rfl)) pe_non (nomark _))
    (pss_cons (ps_if (pt_cmpR op_gt (pe_callB call_len_seq (by rfl) T.len PySem.boot_len (pa_cons (pv 2) pa_nil)) pe_int (nomark _))
        (pss_one (ps_ret pe_str))
        pss_nil)
      (pss_cons (ps_if (PW.pt (pw_or (pt_not (pt_val (pe_own o_is_number (hr.mono (by decide)) (pa_cons (pv 3) pa_nil)))) (pw_or1 (pt_cmpR op_gt (pv 3) pe_int (nomark _)))))
        (pss_one (ps_ret pe_str))
        pss_nil)
      (pss_one (ps_ret (pe_ifExp (PW.pt (pw_and (pt_val (pe_own o_is_number (hr.mono (by decide)) (pa_cons (pv 4) pa_nil))) (pw_and1 (pt_cmpR op_eq (pv 4) pe_int (nomark _))))) pe_non pe_str)))))
    pss_nil)
  (pss_cons (ps_if (PW.pt (pw_or (pt_cmpR op_eq (pe_callB call_len_seq (by rfl) T.len PySem.boot_len (pa_cons (pv 2) pa_nil)) pe_int (nomark _)) (pw_or1 (pt_not (pt_val (pe_own o_rise (hr.mono (by decide)) (pa_cons (pe_lst (pa_cons (pv 5) (StX.pa_star (pv 2) pa_nil))) pa_nil)))))))
    (pss_one (ps_ret pe_str))
    pss_nil)
  (pss_cons (ps_if (PW.pt (pw_or (pt_not (pt_val (pe_own o_is_number (hr.mono (by decide)) (pa_cons (pv 3) pa_nil)))) (pw_or1 (pt_cmpR op_le (pv 3) (pe_op op_sub (pe_ix ix_tup (pe_alt (pe_ix ix_list (pv 2) (pe_un un_neg pe_int) (fun _ _ => rfl)) (pe_ix ix_tup (pv 2) (pe_un un_neg pe_int) (fun _ _ => rfl))) pe_int (fun _ _ => rfl)) (pe_ix ix_tup (pe_alt (pe_ix ix_list (pv 2) pe_int (fun _ _ => rfl)) (pe_ix ix_tup (pv 2) pe_int (fun _ _ => rfl))) pe_int (fun _ _ => rfl))) (nomark _)))))
    (pss_one (ps_ret pe_str))
    pss_nil)
  (pss_one (ps_ret (pe_ifExp (PW.pt (pw_and (pt_val (pe_own o_is_number (hr.mono (by decide)) (pa_cons (pv 4) pa_nil))) (pw_and1 (pt_cmpR op_gt (pv 4) (pe_op op_sub (pe_ix ix_tup (pe_alt (pe_ix ix_list (pv 2) (pe_un un_neg pe_int) (fun _ _ => rfl)) (pe_ix ix_tup (pv 2) (pe_un un_neg pe_int) (fun _ _ => rfl))) pe_int (fun _ _ => rfl)) (pe_ix ix_tup (pe_alt (pe_ix ix_list (pv 2) pe_int (fun _ _ => rfl)) (pe_ix ix_tup (pv 2) pe_int (fun _ _ => rfl))) pe_int (fun _ _ => rfl))) (nomark _))))) pe_non pe_str))))))))))), ?_⟩
    have k0 : ∀ H' wd, Same H H' → wd = wordT d0 d1 d2 d3 d4 → Q (wv wd) H' := fun H' wd s e => by
      rw [e]
      exact k _ s
    clear k
    suffices aft : (isNonD d0 || isNumD d0) = true → ∀ H1, Same H H1 → _ by
      refine ⟨_, rfl, rfl, _, rfl, ?_⟩
      rw [h0.nonB]
      cases hn : isNonD d0 with
      | true =>
        refine iteF ?_
        refine iteF ?_
        exact aft (by rw [hn]; rfl) H (Same.refl _)
      | false =>
        refine iteT ?_
        refine ⟨_, rfl, v0, d0, rfl, h0, fun H1 s1 => ⟨_, rfl, ?_⟩⟩
        cases hm : isNumD d0 with
        | false =>
          refine iteT ?_
          refine k0 _ (some wU) s1 ?_
          unfold wordT
          rw [if_neg (by rw [hn, hm]; decide)]
        | true =>
          refine iteF ?_
          exact aft (by rw [hn, hm]; rfl) H1 s1
    intro hU H1 s1
    have k1 : ∀ H' wd, Same H1 H' → wd = (if (isSeqD d1 && (itemsD d1).all isFD) = true then
      if riseF (none, cO d0) ((itemsD d1).map stO) = true then wordA d0 ((itemsD d1).map stO) d2 d3 d4 else some wF
    else some wF) → Q (wv wd) H' := fun H' wd s' e => k0 H' wd (s1.trans s') (by
      rw [e]
      unfold wordT
      rw [if_pos hU])
    have h0 := h0.same s1
    have h1 := h1.same s1
    have h2 := h2.same s1
    have h3 := h3.same s1
    have h4 := h4.same s1
    clear k0 s1
    refine ⟨_, rfl, v1, d1, rfl, h1, fun H2 s2 => ⟨_, rfl, ?_⟩⟩
    cases hq : isSeqD d1 with
    | false =>
      refine iteT ?_
      refine iteT ?_
      exact k1 _ (some wF) s2 (by rw [if_neg (by rw [hq]; exact Bool.false_ne_true)])
    | true =>
      refine iteF ?_
      obtain ⟨A1, xs1, rfl, hS1, hX1, hL1, hO1⟩ := (h1.same s2).seq (K := K) hq
      have ln1 := hX1.len
      rw [hq, Bool.true_and] at k1
      generalize itemsD d1 = ds1 at hX1 hL1 ln1 k1
      refine seq_pi hS1 rfl fun J hJ => fun M nM => lc_seq hJ (fun i H' => Same H2 H' ∧ H' M = some (.lst (((ds1.take i).map isFD).map V.bl))) ⟨same_upd nM, upd_same⟩ (fun i H' q => q.1) ?_ ?_
      · rintro i x H' hx ⟨s', e'⟩
        obtain ⟨e, he, hxe⟩ := hX1.get hx
        have hi : i < ds1.length := (List.getElem?_eq_some_iff.mp he).1
        refine ⟨rfl, _, rfl, x, e, rfl, hxe.same s', fun H3 s3 => ⟨_, rfl, ?_⟩⟩
        have fin : ∀ H4, Same H3 H4 → ∃ acc, H4 M = some (.lst acc) ∧ acc.length < sizeLine ∧ Same H2 (upd H4 M (.lst (acc ++ [V.bl (isFD e)]))) ∧ (upd H4 M (.lst (acc ++ [V.bl (isFD e)]))) M = some (.lst (((ds1.take (i + 1)).map isFD).map V.bl)) := fun H4 s4 => by
          have s34 := s3.trans s4
          refine ⟨_, s34 _ _ e', ?_, (s'.trans s34).upd1 nM, ?_⟩
          · rw [List.length_map, List.length_map, List.length_take]
            exact small2000 (by omega)
          · rw [upd_same, List.take_add_one, he, List.map_append, List.map_append]
            rfl
        cases hst : isStepD e with
        | true =>
          refine iteT ?_
          have := fin H3 (Same.refl _)
          rw [show isFD e = true by unfold isFD; rw [hst]; rfl] at this
          exact this
        | false =>
          refine iteF ?_
          refine ⟨_, rfl, x, e, rfl, hxe.same (s'.trans s3), fun H4 s4 => ?_⟩
          have := fin H4 s4
          rw [show isFD e = isEndlD e by unfold isFD; rw [hst]; rfl] at this
          exact this
      · rintro H3 ⟨s3, e3⟩
        rw [ln1, List.take_length] at e3
        refine ⟨M, _, rfl, SqL.of e3, _, rfl, ?_⟩
        have ea : (ds1.map isFD).all id = ds1.all isFD := by rw [List.all_map]; rfl
        rw [ea]
        have s23 := s2.trans s3
        cases hr1 : ds1.all isFD with
        | false =>
          refine iteT ?_
          exact k1 _ (some wF) s23 (by rw [if_neg (by rw [hr1]; exact Bool.false_ne_true)])
        | true =>
          refine iteF ?_
          rw [if_pos hr1] at k1
          have hds := map_eqs (fun d => first_eq) hr1
          have hv0 : v0 = cV (cO d0) := dv_c (by
            have ed : d0 = cD (cO d0) := by
              cases d0 <;> first | rfl | cases hU
            rw [← ed]
            exact h0)
          have k2 : ∀ H' wd, Same H3 H' → wd = (if riseF (none, cO d0) (ds1.map stO) = true then wordA d0 (ds1.map stO) d2 d3 d4 else some wF) → Q (wv wd) H' := fun H' wd s' e => k1 H' wd (s23.trans s') e
          have hS1 := s3.sqs hS1
          have hX1 := hX1.same s3
          have h2 := h2.same s23
          have h3 := h3.same s23
          have h4 := h4.same s23
          clear k1 h0 h1 s2 s3 s23 e3 nM ea hO1 hJ J
          rw [hds] at hX1
          generalize ds1.map stO = fs at hX1 k2 hds
          have ln1 : xs1.length = fs.length := by
            have := hX1.len
            rw [List.length_map] at this
            exact this
          have hlf : fs.length ≤ 2000 := by
            rw [← ln1]
            rw [hds, List.length_map, ← ln1] at hL1
            exact hL1
          clear hds hr1 hL1
          refine ⟨_, rfl, Nat.le_of_ble_eq_true rfl, fun p np => ?_⟩
          generalize hq : upd H3 p _ = H4
          obtain ⟨s4, e4⟩ := new_facts np hq
          clear hq
          refine ⟨_, rfl, A1, _, rfl, (s4.sqs hS1).symm, ?_⟩
          refine ⟨Nat.le_of_lt (small2000 (by simp only [List.length_cons, List.length_append, List.length_nil]; omega)), fun L nL => ?_⟩
          generalize hq : upd H4 L _ = H5
          obtain ⟨s5, e5⟩ := new_facts nL hq
          clear hq
          rw [List.append_nil] at e5
          have s35 := s4.trans s5
          refine ⟨L, .ref p, xs1, (none, cO d0), fs, rfl, e5, pr_dv (by rw [← hv0]; exact s5 _ _ e4), hX1.same s35, hlf, fun H6 s6 => ⟨_, rfl, ?_⟩⟩
          have s36 := s35.trans s6
          cases hri : riseF (none, cO d0) fs with
          | false =>
            refine iteT ?_
            exact k2 _ (some wF) s36 (by rw [if_neg (by rw [hri]; exact Bool.false_ne_true)])
          | true =>
            refine iteF ?_
            rw [if_pos hri] at k2
            have k3 : ∀ H' wd, Same H6 H' → wd = wordA d0 fs d2 d3 d4 → Q (wv wd) H' := fun H' wd s' e => k2 H' wd (s36.trans s') e
            have hS1 := s36.sqs hS1
            have hX1 := hX1.same s36
            have h2 := h2.same s36
            have h3 := h3.same s36
            have h4 := h4.same s36
            clear k2 s4 s5 s6 s35 s36 e4 e5 np nL
            refine ⟨_, rfl, v2, d2, rfl, h2, fun H7 s7 => ⟨_, rfl, ?_⟩⟩
            cases hq2 : isSeqD d2 with
            | false =>
              refine iteT ?_
              refine iteT ?_
              exact k3 _ (some wA) s7 (by unfold wordA; rw [if_neg (by rw [hq2]; exact Bool.false_ne_true)])
            | true =>
              refine iteF ?_
              obtain ⟨A2, xs2, rfl, hS2, hX2, hL2, hO2⟩ := (h2.same s7).seq (K := K) hq2
              have ln2 := hX2.len
              have k4 : ∀ H' wd, Same H6 H' → wd = (if (itemsD d2).all isStepD = true then wordR ((fs.getLast?.map prO).getD (none, cO d0)) ((itemsD d2).map stO) d3 d4 else some wA) → Q (wv wd) H' := fun H' wd s' e => k3 H' wd s' (by
                rw [e]
                unfold wordA
                rw [hq2, Bool.true_and])
              clear k3
              generalize itemsD d2 = ds2 at hX2 hL2 ln2 k4
              refine seq_pi hS2 rfl fun J hJ => fun M nM => lc_seq hJ (fun i H' => Same H7 H' ∧ H' M = some (.lst (((ds2.take i).map isStepD).map V.bl))) ⟨same_upd nM, upd_same⟩ (fun i H' q => q.1) ?_ ?_
              · rintro i x H' hx ⟨s', e'⟩
                obtain ⟨e, he, hxe⟩ := hX2.get hx
                have hi : i < ds2.length := (List.getElem?_eq_some_iff.mp he).1
                refine ⟨rfl, _, rfl, x, e, rfl, hxe.same s', fun H8 s8 => ⟨_, s8 _ _ e', ?_, (s'.trans s8).upd1 nM, ?_⟩⟩
                · rw [List.length_map, List.length_map, List.length_take]
                  exact small2000 (by omega)
                · rw [upd_same, List.take_add_one, he, List.map_append, List.map_append]
                  rfl
              · rintro H8 ⟨s8, e8⟩
                rw [ln2, List.take_length] at e8
                refine ⟨M, _, rfl, SqL.of e8, _, rfl, ?_⟩
                have ea : (ds2.map isStepD).all id = ds2.all isStepD := by rw [List.all_map]; rfl
                rw [ea]
                have s68 := s7.trans s8
                cases hr2 : ds2.all isStepD with
                | false =>
                  refine iteT ?_
                  exact k4 _ (some wA) s68 (by rw [if_neg (by rw [hr2]; exact Bool.false_ne_true)])
                | true =>
                  refine iteF ?_
                  rw [if_pos hr2] at k4
                  have hds := map_eqs (fun d h => (step_eq h).1) hr2
                  have hsm : ∀ y ∈ ds2.map stO, ∃ c, y.2 = some c ∧ 0 ≤ c := fun y hy => by
                    obtain ⟨d, hd, rfl⟩ := List.mem_map.mp hy
                    exact (step_eq (List.all_eq_true.mp hr2 d hd)).2
                  have k5 : ∀ H' wd, Same H8 H' → wd = wordR ((fs.getLast?.map prO).getD (none, cO d0)) (ds2.map stO) d3 d4 → Q (wv wd) H' := fun H' wd s' e => k4 H' wd (s68.trans s') e
                  have hS2 := s8.sqs hS2
                  have hX2 := hX2.same s8
                  have hS1 := s68.sqs hS1
                  have hX1 := hX1.same s68
                  have h3 := h3.same s68
                  have h4 := h4.same s68
                  clear k4 h2 s7 s8 s68 e8 nM ea hO2 hJ J
                  rw [hds] at hX2
                  generalize ds2.map stO = as at hX2 k5 hds hsm
                  have ln2 : xs2.length = as.length := by
                    have := hX2.len
                    rw [List.length_map] at this
                    exact this
                  have hla : as.length ≤ 2000 := by
                    rw [← ln2]
                    rw [hds, List.length_map, ← ln2] at hL2
                    exact hL2
                  clear hds hr2 hL2
                  obtain ⟨l, hl⟩ : ∃ l, l = (fs.getLast?.map prO).getD (none, cO d0) := ⟨_, rfl⟩
                  rw [← hl] at k5
                  refine ⟨fun σ' H' => ∃ p, σ' = [some v0, some (.ref A1), some (.ref A2), some v3, some v4, some (.ref p), none] ∧ Same H8 H' ∧ H' p = some (.tup [cV l.1, cV l.2]), ?_, ?_⟩
                  · refine ⟨_, rfl, A1, xs1, rfl, hS1, _, _, rfl, rfl, _, rfl, ?_⟩
                    rcases List.eq_nil_or_concat fs with hf | ⟨fs', y, hf⟩
                    · rw [hf] at ln1 hl
                      rw [decide_eq_false (by rw [ln1]; decide)]
                      refine iteF ?_
                      refine ⟨_, rfl, Nat.le_of_ble_eq_true rfl, fun p np => ⟨p, rfl, same_upd np, ?_⟩⟩
                      rw [upd_same, hv0, hl]
                      rfl
                    · rw [List.concat_eq_append] at hf
                      rw [hf] at ln1 hl hX1
                      rw [List.map_append] at hX1
                      obtain ⟨x, ex, dx⟩ := DvAll.last hX1
                      rw [decide_eq_true (by rw [ln1, List.length_append, List.length_singleton]; omega)]
                      refine iteT ?_
                      obtain ⟨q, rfl, eq⟩ := dv_pr (x := prO y) dx
                      rw [List.getLast?_append, List.getLast?_singleton] at hl
                      have hl : l = prO y := hl
                      rcases hS1 with hS1 | hS1
                      · exact Or.inl ⟨_, rfl, _, rfl, A1, xs1, -1, _, rfl, rfl, hS1, atI_neg1 ex, q, rfl, Same.refl _, by rw [eq, hl]⟩
                      · exact Or.inr ⟨_, rfl, _, rfl, A1, xs1, -1, _, rfl, rfl, hS1, atI_neg1 ex, q, rfl, Same.refl _, by rw [eq, hl]⟩
                  · rintro σ' H9 ⟨p, rfl, s9, ep⟩
                    have k6 : ∀ H' wd, Same H9 H' → wd = wordR l as d3 d4 → Q (wv wd) H' := fun H' wd s' e => k5 H' wd (s9.trans s') e
                    have hS2 := s9.sqs hS2
                    have hX2 := hX2.same s9
                    have h3 := h3.same s9
                    have h4 := h4.same s9
                    clear k5 hS1 hX1 s9
                    refine ⟨_, rfl, _, _, _, _, rfl, rfl, SqT.of ep, rfl, rfl, _, rfl, ?_⟩
                    rw [cV_non]
                    obtain ⟨l1, l2⟩ := l
                    cases l2 with
                    | none =>
                      refine iteT ?_
                      have k7 : ∀ H' wd, Same H9 H' → wd = (if 0 < as.length then some wA else if (isNumD d3 && decide (intD d3 ≤ 0)) = true then (if (isNumD d4 && decide (intD d4 = 0)) = true then none else some wM) else some wT) → Q (wv wd) H' := k6
                      clear k6
                      refine ⟨_, rfl, A2, xs2, rfl, hS2, _, _, rfl, rfl, _, rfl, ?_⟩
                      rw [ln2]
                      refine ite2 (fun c => ?_) (fun c => ?_)
                      · have c' := of_decide_eq_true c
                        exact k7 _ (some wA) (Same.refl _) (by rw [if_pos (by omega)])
                      · have c' : ¬ 0 < as.length := fun q => c (decide_eq_true (by omega))
                        rw [if_neg c'] at k7
                        refine ⟨_, rfl, v3, d3, rfl, h3, fun Ha sa => ⟨_, rfl, ?_⟩⟩
                        cases hn : isNumD d3 with
                        | false =>
                          refine iteT ?_
                          refine iteT ?_
                          exact k7 _ (some wT) sa (by rw [if_neg (by rw [hn]; exact Bool.false_ne_true)])
                        | true =>
                          refine iteF ?_
                          obtain ⟨en, _⟩ := num_eq hn
                          rw [hn, Bool.true_and] at k7
                          generalize intD d3 = n3 at en k7
                          subst en
                          obtain rfl : v3 = .int n3 := by cases h3; rfl
                          refine ⟨_, rfl, _, _, rfl, rfl, _, rfl, ?_⟩
                          refine ite2 (fun c => ?_) (fun c => ?_)
                          · have c2 := of_decide_eq_true c
                            exact k7 _ (some wT) sa (by rw [if_neg (by rw [decide_eq_false (by omega)]; decide)])
                          · have c2 : ¬ 0 < n3 := fun q => c (decide_eq_true q)
                            rw [if_pos (decide_eq_true (by omega))] at k7
                            refine ⟨_, rfl, v4, d4, rfl, h4.same sa, fun Hb sb => ⟨_, rfl, ?_⟩⟩
                            cases hm : isNumD d4 with
                            | false =>
                              refine iteF ?_
                              refine iteF ?_
                              exact k7 _ (some wM) (sa.trans sb) (by rw [if_neg (by rw [hm]; exact Bool.false_ne_true)])
                            | true =>
                              refine iteT ?_
                              obtain ⟨em, _⟩ := num_eq hm
                              rw [hm, Bool.true_and] at k7
                              generalize intD d4 = n4 at em k7
                              subst em
                              obtain rfl : v4 = .int n4 := by cases h4; rfl
                              refine ⟨_, rfl, rfl, _, rfl, ?_⟩
                              refine ite2 (fun c => ?_) (fun c => ?_)
                              · have c2 : n4 = 0 := V.int.inj (of_decide_eq_true c)
                                exact k7 _ none (sa.trans sb) (by rw [if_pos (decide_eq_true c2)])
                              · have c2 : ¬ n4 = 0 := fun q => c (decide_eq_true (by rw [q]))
                                exact k7 _ (some wM) (sa.trans sb) (by rw [if_neg (by rw [decide_eq_false c2]; decide)])
                    | some l2 =>
                      refine iteF ?_
                      have k7 : ∀ H' wd, Same H9 H' → wd = (match as.head?, as.getLast? with
    | some x, some y => if riseF (l1, some l2) as = true then (if (isNumD d3 && decide (y.1 - x.1 < intD d3)) = true then (if (isNumD d4 && decide ((y.2.getD 0) - (x.2.getD 0) < intD d4)) = true then none else some wM) else some wT) else some wA
    | _, _ => some wA) → Q (wv wd) H' := k6
                      clear k6
                      refine ⟨_, rfl, A2, xs2, rfl, hS2, rfl, _, rfl, ?_⟩
                      rw [ln2]
                      rcases List.eq_nil_or_concat as with ha | ⟨as', y, ha⟩
                      · rw [ha] at k7
                        rw [ha, decide_eq_true (by rfl)]
                        refine iteT ?_
                        refine iteT ?_
                        exact k7 _ (some wA) (Same.refl _) rfl
                      · rw [List.concat_eq_append] at ha
                        obtain ⟨x, as2, ha2⟩ : ∃ x as2, as = x :: as2 := by
                          cases as with
                          | nil => exact absurd (congrArg List.length ha) (by rw [List.length_append]; simp)
                          | cons x as2 => exact ⟨x, as2, rfl⟩
                        rw [decide_eq_false (by rw [ha2]; intro q; have := V.int.inj q; rw [List.length_cons] at this; omega)]
                        refine iteF ?_
                        have k8 : ∀ H' wd, Same H9 H' → wd = (if riseF (l1, some l2) as = true then (if (isNumD d3 && decide (y.1 - x.1 < intD d3)) = true then (if (isNumD d4 && decide ((y.2.getD 0) - (x.2.getD 0) < intD d4)) = true then none else some wM) else some wT) else some wA) → Q (wv wd) H' := fun H' wd s' e => k7 H' wd s' (by
                          rw [e, show as.head? = some x by rw [ha2]; rfl, show as.getLast? = some y by rw [ha]; exact List.getLast?_concat ..])
                        clear k7
                        obtain ⟨cx, ecx, _⟩ := hsm x (by rw [ha2]; exact List.mem_cons_self)
                        obtain ⟨cy, ecy, _⟩ := hsm y (by rw [ha]; exact List.mem_append_right _ List.mem_cons_self)
                        rw [ecx, ecy] at k8
                        have hXa := hX2
                        rw [ha2, List.map_cons] at hXa
                        obtain ⟨z1, hz1, dz1⟩ := hXa.hd
                        obtain ⟨q1, rfl, eq1⟩ := dv_pr (x := prO x) dz1
                        have hXb := hX2
                        rw [ha, List.map_append] at hXb
                        obtain ⟨z2, hz2, dz2⟩ := DvAll.last hXb
                        obtain ⟨q2, rfl, eq2⟩ := dv_pr (x := prO y) dz2
                        have eq1 : H9 q1 = some (.tup [.int x.1, .int cx]) := by
                          rw [eq1]
                          show some (HO.tup [.int x.1, cV x.2]) = _
                          rw [ecx]
                          rfl
                        have eq2 : H9 q2 = some (.tup [.int y.1, .int cy]) := by
                          rw [eq2]
                          show some (HO.tup [.int y.1, cV y.2]) = _
                          rw [ecy]
                          rfl
                        clear hXa hXb dz1 dz2 ha ha2 hsm
                        refine ⟨_, rfl, _, rfl, A2, _, rfl, hS2.symm, ?_⟩
                        refine ⟨Nat.le_of_lt (small2000 (by simp only [List.length_cons, List.length_append, List.length_nil]; omega)), fun L nL => ?_⟩
                        generalize hq : upd H9 L _ = H10
                        obtain ⟨s10, e10⟩ := new_facts nL hq
                        clear hq
                        rw [List.append_nil] at e10
                        refine ⟨L, .ref p, xs2, (l1, some l2), as, rfl, e10, pr_dv (s10 _ _ ep), hX2.same s10, hla, fun Ha sa => ⟨_, rfl, ?_⟩⟩
                        have sa := s10.trans sa
                        cases hri2 : riseF (l1, some l2) as with
                        | false =>
                          refine iteT ?_
                          exact k8 _ (some wA) sa (by rw [if_neg (by rw [hri2]; exact Bool.false_ne_true)])
                        | true =>
                          refine iteF ?_
                          rw [if_pos hri2] at k8
                          refine ⟨_, rfl, v3, d3, rfl, h3.same sa, fun Hb sb => ⟨_, rfl, ?_⟩⟩
                          have sb := sa.trans sb
                          cases hn : isNumD d3 with
                          | false =>
                            refine iteT ?_
                            refine iteT ?_
                            exact k8 _ (some wT) sb (by rw [if_neg (by rw [hn]; exact Bool.false_ne_true)])
                          | true =>
                            refine iteF ?_
                            obtain ⟨en, _⟩ := num_eq hn
                            rw [hn, Bool.true_and] at k8
                            generalize intD d3 = n3 at en k8
                            subst en
                            obtain rfl : v3 = .int n3 := by cases h3; rfl
                            refine ⟨_, rfl, ?_⟩
                            refine rd_pair (i := -1) (sb.sqs hS2) rfl (fun R h => ⟨1, rfl, h⟩) (atI_neg1 hz2) (sb _ _ eq2) rfl ?_
                            refine rd_pair (i := 0) (sb.sqs hS2) rfl (fun R h => h) hz1 (sb _ _ eq1) rfl ?_
                            refine ⟨_, _, rfl, rfl, _, _, rfl, rfl, _, rfl, ?_⟩
                            refine ite2 (fun c => ?_) (fun c => ?_)
                            · have c2 := of_decide_eq_true c
                              exact k8 _ (some wT) sb (by rw [if_neg (by rw [decide_eq_false (by omega)]; decide)])
                            · have c2 : ¬ n3 ≤ y.1 - x.1 := fun q => c (decide_eq_true q)
                              rw [if_pos (decide_eq_true (by omega))] at k8
                              refine ⟨_, rfl, v4, d4, rfl, h4.same sb, fun Hc sc => ⟨_, rfl, ?_⟩⟩
                              have sc := sb.trans sc
                              cases hm : isNumD d4 with
                              | false =>
                                refine iteF ?_
                                refine iteF ?_
                                exact k8 _ (some wM) sc (by rw [if_neg (by rw [hm]; exact Bool.false_ne_true)])
                              | true =>
                                refine iteT ?_
                                obtain ⟨em, _⟩ := num_eq hm
                                rw [hm, Bool.true_and] at k8
                                generalize intD d4 = n4 at em k8
                                subst em
                                obtain rfl : v4 = .int n4 := by cases h4; rfl
                                refine ⟨_, rfl, ?_⟩
                                refine rd_pair (i := -1) (sc.sqs hS2) rfl (fun R h => ⟨1, rfl, h⟩) (atI_neg1 hz2) (sc _ _ eq2) rfl ?_
                                refine rd_pair (i := 0) (sc.sqs hS2) rfl (fun R h => h) hz1 (sc _ _ eq1) rfl ?_
                                refine ⟨_, _, rfl, rfl, _, _, rfl, rfl, _, rfl, ?_⟩
                                refine ite2 (fun c => ?_) (fun c => ?_)
                                · have c2 : cy - cx < n4 := of_decide_eq_true c
                                  exact k8 _ none sc (if_pos (decide_eq_true c2)).symm
                                · have c2 : ¬ cy - cx < n4 := fun q => c (decide_eq_true q)
                                  exact k8 _ (some wM) sc (if_neg (by show ¬ (decide (cy - cx < n4)) = true; rw [decide_eq_false c2]; decide)).symm
end
end My

/-! a heap without one thing that changes -/
namespace My
open PySem PySem.Spec PyProof.Rows L2
def off (b : Addr) (H : Hp) : Hp := fun c => if c = b then none else H c
section
variable {b c p : Addr} {H H' H0 H1 H2 : Hp} {o : HO} {v : V} {d : PyData} {xs : List V} {ds : List PyData}
theorem off_at : off b H b = none := if_pos rfl
theorem off_ne (n : c ≠ b) : off b H c = H c := if_neg n
theorem off_of (h : off b H c = some o) : c ≠ b ∧ H c = some o := by
  by_cases e : c = b
  · rw [e, off_at] at h
    cases h
  · rw [off_ne e] at h
    exact ⟨e, h⟩
theorem off_same : Same (off b H) H := fun c o e => (off_of e).2
theorem off_upd : off b (upd H b o) = off b H := funext fun c => by
  by_cases e : c = b
  · rw [e, off_at, off_at]
  · rw [off_ne e, off_ne e, upd_ne e]
theorem off_upd_ne (n : p ≠ b) : off b (upd H p o) = upd (off b H) p o := funext fun c => by
  by_cases e : c = b
  · rw [e, off_at, upd_ne (Ne.symm n), off_at]
  · rw [off_ne e]
    by_cases e2 : c = p
    · rw [e2, upd_same, upd_same]
    · rw [upd_ne e2, upd_ne e2, off_ne e]
theorem off_to (s : Same H0 H) (n : H0 b = none) : Same H0 (off b H) := fun c o e => by
  rw [off_ne (ne_of_none e n)]
  exact s _ _ e
theorem off_off (s : Same H H') : Same (off b H) (off b H') := fun c o e => by
  rw [off_ne (off_of e).1]
  exact s _ _ (off_of e).2
theorem off_bx (s : Bx b H H') : Same (off b H) (off b H') := fun c o e => by
  rw [off_ne (off_of e).1]
  exact s _ _ (off_of e).1 (off_of e).2
theorem bx_off (s : Same (off b H) H') : Bx b H H' := fun c o n e => s c o (by rw [off_ne n]; exact e)
theorem off_free (n : off b H p = none) (ne : p ≠ b) : H p = none := by
  rw [off_ne ne] at n
  exact n
theorem off_none (n : H p = none) : off b H p = none := by
  by_cases e : p = b
  · rw [e, off_at]
  · rw [off_ne e, n]
end
end My

namespace My
open PySem PySem.Spec PyProof.Rows L2
local macro_rules | `(tactic| walk_at "side") => `(tactic| first | (dsimp only; omega) | exact ⟨by omega, by omega⟩ | exact Or.inl ⟨by omega, by omega⟩ | exact Or.inr ⟨by omega, by omega⟩ | decide)
local macro_rules | `(tactic| walk_at "sq") => `(tactic| first | assumption | exact SqL.of (by assumption) | exact SqT.of (by assumption) | (refine L2.Same.seq (by assumption) ?_; walk_at "sq") | (refine L2.Same.seqT (by assumption) ?_; walk_at "sq") | exact Or.inl (by walk_at "sq") | exact Or.inr (by walk_at "sq"))
local macro_rules | `(tactic| walk_at "1") => `(tactic| first
  | refine ⟨_, rfl, iteT ?_⟩
  | refine ⟨_, rfl, iteF ?_⟩
  | refine ⟨_, rfl, ?_⟩
  | refine ⟨_, _, rfl, rfl, (by walk_at "side"), ?_⟩
  | refine ⟨_, _, rfl, rfl, ?_⟩
  | refine ⟨_, _, _, _, true, rfl, .ty _, .base (.int _), kit_ty (a := "int") (by decide +kernel), ?_⟩
  | refine ⟨_, _, _, _, false, rfl, .ty _, .base (.int _), kit_ty (a := "int") (by decide +kernel), ?_⟩
  | refine ⟨_, _, rfl, (by walk_at "sq"), ?_⟩
  | refine ⟨_, _, _, _, rfl, rfl, (by walk_at "sq"), (by first | rfl | assumption), ?_⟩
  | refine Or.inl ⟨_, _, _, _, rfl, rfl, (by walk_at "sq"), (by first | rfl | assumption), ?_⟩
  | refine Or.inr (Or.inl ⟨_, _, _, _, rfl, rfl, (by walk_at "sq"), (by first | rfl | assumption), ?_⟩)
  | refine ⟨_, _, rfl, Or.inl ⟨(by walk_at "sq"), ?_⟩⟩
  | refine ⟨rfl, ?_⟩
  | refine iteT ?_
  | refine iteF ?_
  | refine ⟨_, _, _, _, _, rfl, (by assumption), (by assumption), (by assumption), (by assumption), ?_⟩
  | refine Or.inl ⟨_, rfl, ?_⟩
  | refine Or.inr ⟨_, rfl, ?_⟩
  | refine ⟨_, _, rfl, (by walk_at "side"), ?_⟩
  | refine ⟨_, _, rfl, ?_⟩)
local macro_rules | `(tactic| walk_at "fld") => `(tactic| skip)
local macro_rules | `(tactic| walk_at "s") => `(tactic| repeat walk_at "1")
local macro_rules | `(tactic| walk_at "size") => `(tactic| first | exact Nat.le_of_ble_eq_true rfl | (simp only [List.length_map, List.length_append, List.length_cons, List.length_nil]; omega))
local macro_rules | `(tactic| walk_at "new") => `(tactic| (first | refine ⟨(by walk_at "size"), fun p hp => ?_⟩ | refine fun p hp => ?_); (generalize hq : upd _ p _ = H1); (obtain ⟨s, e⟩ := new_facts hp hq); clear hq)
/-! steps moved, the least form -/
abbrev Sti := Int × Int
def up (x : Sti) : Stp := (x.1, some x.2)
def siD (x : Sti) : PyData := .tuple [.int x.1, .int x.2]
theorem si_st (x : Sti) : siD x = stD (up x) := rfl
def mv (l g : Int) (x : Sti) : Sti := (x.1 + l, x.2 + g)
theorem dv_si {H : Hp} {v : V} {x : Sti} (h : Dv H v (siD x)) : ∃ p, v = .ref p ∧ H p = some (.tup [.int x.1, .int x.2]) := dv_pr (x := prO (up x)) h
theorem si_dv {H : Hp} {p : Addr} {x : Sti} (h : H p = some (.tup [.int x.1, .int x.2])) : Dv H (.ref p) (siD x) := pr_dv (x := prO (up x)) h
/-! ### steps compared -/
theorem canLay_si : ∀ xs : List Sti, PyData.canLayAll0 (xs.map siD) = true
  | [] => rfl
  | x :: r => by
    show (true && PyData.canLayAll0 (r.map siD)) = true
    rw [canLay_si r]
    rfl
theorem depth_si : ∀ xs : List Sti, PyData.depthAll (xs.map siD) ≤ 1
  | [] => Nat.zero_le _
  | x :: r => by
    have h := depth_si r
    have e : PyData.depthAll ((x :: r).map siD) = max 1 (PyData.depthAll (r.map siD)) := rfl
    rw [e]
    omega
theorem shaped_si (xs : List Sti) : SeqAt.shaped (.list (xs.map siD)) = true := by
  have h := depth_si xs
  show (PyData.canLayAll0 (xs.map siD) && decide (PyData.depthAll (xs.map siD) + 1 ≤ 64)) = true
  rw [canLay_si, decide_eq_true (by omega)]
  rfl
theorem eqv_si (x y : Sti) : PyData.eqv (siD x) (siD y) = decide (x = y) := by
  obtain ⟨a, b⟩ := x
  obtain ⟨c, d⟩ := y
  show (a == c && (b == d && true)) = decide ((a, b) = (c, d))
  by_cases h1 : a = c
  · by_cases h2 : b = d
    · subst h1 h2
      simp
    · rw [beq_eq_false_iff_ne.mpr h2, decide_eq_false (fun q => h2 (Prod.mk.inj q).2)]
      simp
  · rw [beq_eq_false_iff_ne.mpr h1, decide_eq_false (fun q => h1 (Prod.mk.inj q).1)]
    rfl
theorem eqvAll_si : ∀ xs ys : List Sti, PyData.eqvAll (xs.map siD) (ys.map siD) = decide (xs = ys)
  | [], [] => rfl
  | [], _ :: _ => rfl
  | _ :: _, [] => rfl
  | x :: xs, y :: ys => by
    show (PyData.eqv (siD x) (siD y) && PyData.eqvAll (xs.map siD) (ys.map siD)) = decide (x :: xs = y :: ys)
    rw [eqv_si, eqvAll_si xs ys]
    by_cases e : x = y
    · subst e
      simp
    · rw [decide_eq_false e]
      exact (decide_eq_false fun q => e (List.cons.inj q).1).symm
theorem eqv_sil (xs ys : List Sti) : PyData.eqv (.list (xs.map siD)) (.list (ys.map siD)) = decide (xs = ys) := eqvAll_si xs ys
section
variable {P : Program} {w : World} {K : PySem.W.Frag} {mg : Str → Option Value} {base : Heap}
abbrev s_moved : Stmt := topS 13
theorem sc_moved : FnScope ["steps", "lasts", "grow", "time", "told"] ["steps", "lasts", "grow"] (defScope s_moved) := ⟨rfl, rfl, rfl, by decide +kernel, rfl, by decide +kernel, by decide +kernel⟩
def spMoved (K : PySem.W.Frag) : Sp := fun vs H Q _ => ∃ (a : Addr) (xs : List V) (as : List Sti) (l g : Int), vs = [.ref a, .int l, .int g] ∧ SqS K H a xs ∧ DvAll H xs (as.map siD) ∧ as.length ≤ 2000 ∧
  ∀ H' p ys, Same H H' → H p = none → H' p = some (.lst ys) → DvAll (off p H') ys ((as.map (mv l g)).map siD) → Q (.ref p) H'
set_option maxHeartbeats 4000000 in
theorem ok_moved (D : Df K mg "_moved" s_moved ["steps", "lasts", "grow"]) : Own P w K mg base "_moved" 1 ["steps", "lasts", "grow"] (spMoved K) := by
  refine D.own sc_moved (fun vs H Q E h => ?_) (fun fa cdv A outer s H vs Q E hr h => ?_)
  · obtain ⟨_, _, _, _, _, rfl, _⟩ := h
    rfl
  · obtain ⟨a, xs, as, l, g, rfl, hS, hX, hz, k⟩ := h
    refine ⟨_, (pss_one (ps_ret (pe_lc (own := [("time", 3), ("told", 4)]) (g := gTup K 2 (gCons (gName 3) (gCons (gName 4) gNil))) (tt := tYes) rfl sc_moved.nd (pi_alt (pi_list (pv 0)) (pi_tup (pv 0))) (blkOk_by (own := [("time", 3), ("told", 4)]) (N := ["steps", "lasts", "grow", "time", "told"]) (sc := defScope s_moved) (by decide +kernel)) (fun _ _ _ _ _ => (pg_tup (by rfl) (pgs_cons (pg_name (i := 3) sc_moved.nd rfl (Or.inl rfl)) (pgs_cons (pg_name (i := 4) sc_moved.nd rfl (Or.inl rfl)) pgs_nil)))) (fun _ _ _ _ _ => pts_nil) (fun _ _ _ _ _ => (pe_tup (pa_cons (pe_op op_add (pv 3) (pv 1)) (pa_cons (pe_op op_add (pv 4) (pv 2)) pa_nil))))))), ?_⟩
    have hl := hX.len
    rw [List.length_map] at hl
    refine seq_pi hS rfl fun J hJ => fun L nL => lc_seq hJ (fun i H' => Same H H' ∧ ∃ acc, H' L = some (.lst acc) ∧ DvAll (off L H') acc (((as.take i).map (mv l g)).map siD)) ⟨same_upd nL, [], upd_same, .nil⟩ (fun i H' q => q.1) ?_ ?_
    · rintro i x H' hi ⟨s1, acc, e1, hA⟩
      obtain ⟨d, hd, hx⟩ := hX.get hi
      rw [List.getElem?_map] at hd
      obtain ⟨y, hy, rfl⟩ := Option.map_eq_some_iff.mp hd
      obtain ⟨q, rfl, eq⟩ := dv_si (hx.same s1)
      have hi : i < as.length := (List.getElem?_eq_some_iff.mp hy).1
      have hal : acc.length = i := by
        rw [hA.len, List.length_map, List.length_map, List.length_take]
        omega
      refine ⟨q, _, rfl, SqT.of eq, rfl, _, _, rfl, _, _, rfl, rfl, rfl, ?_⟩
      refine ⟨_, rfl, _, rfl, _, _, rfl, rfl, _, rfl, _, rfl, _, _, rfl, rfl, Nat.le_of_ble_eq_true rfl, fun p np => ?_⟩
      have ne : p ≠ L := fun z => by rw [z, e1] at np; cases np
      refine ⟨acc, ?_, small2000 (by omega), ?_, acc ++ [.ref p], upd_same, ?_⟩
      · rw [upd_ne ne.symm]
        exact e1
      · exact (s1.trans (same_upd np)).upd1 nL
      · rw [off_upd, off_upd_ne ne, List.take_add_one, hy, List.map_append, List.map_append]
        have s2 : Same (off L H') (upd (off L H') p (.tup [.int (y.1 + l), .int (y.2 + g)])) := same_upd (off_none np)
        exact (hA.same s2).app (.cons (si_dv (x := mv l g y) upd_same) .nil)
    · rintro H' ⟨s1, acc, e1, hA⟩
      rw [hl, List.take_length] at hA
      exact k _ _ _ s1 nL e1 hA
end
end My

namespace My
open PySem PySem.Spec PyProof.Rows L2
local macro_rules | `(tactic| walk_at "side") => `(tactic| first | (dsimp only; omega) | exact ⟨by omega, by omega⟩ | exact Or.inl ⟨by omega, by omega⟩ | exact Or.inr ⟨by omega, by omega⟩ | decide)
local macro_rules | `(tactic| walk_at "sq") => `(tactic| first | assumption | exact SqL.of (by assumption) | exact SqT.of (by assumption) | (refine L2.Same.seq (by assumption) ?_; walk_at "sq") | (refine L2.Same.seqT (by assumption) ?_; walk_at "sq") | exact Or.inl (by walk_at "sq") | exact Or.inr (by walk_at "sq"))
local macro_rules | `(tactic| walk_at "1") => `(tactic| first
  | refine ⟨_, rfl, iteT ?_⟩
  | refine ⟨_, rfl, iteF ?_⟩
  | refine ⟨_, rfl, ?_⟩
  | refine ⟨_, _, rfl, rfl, (by walk_at "side"), ?_⟩
  | refine ⟨_, _, rfl, rfl, ?_⟩
  | refine ⟨_, _, _, _, true, rfl, .ty _, .base (.int _), kit_ty (a := "int") (by decide +kernel), ?_⟩
  | refine ⟨_, _, _, _, false, rfl, .ty _, .base (.int _), kit_ty (a := "int") (by decide +kernel), ?_⟩
  | refine ⟨_, _, rfl, (by walk_at "sq"), ?_⟩
  | refine ⟨_, _, _, _, rfl, rfl, (by walk_at "sq"), (by first | rfl | assumption), ?_⟩
  | refine Or.inl ⟨_, _, _, _, rfl, rfl, (by walk_at "sq"), (by first | rfl | assumption), ?_⟩
  | refine Or.inr (Or.inl ⟨_, _, _, _, rfl, rfl, (by walk_at "sq"), (by first | rfl | assumption), ?_⟩)
  | refine ⟨_, _, rfl, Or.inl ⟨(by walk_at "sq"), ?_⟩⟩
  | refine ⟨rfl, ?_⟩
  | refine iteT ?_
  | refine iteF ?_
  | refine ⟨_, _, _, _, _, rfl, (by assumption), (by assumption), (by assumption), (by assumption), ?_⟩
  | refine Or.inl ⟨_, rfl, ?_⟩
  | refine Or.inr ⟨_, rfl, ?_⟩
  | refine ⟨_, _, rfl, (by walk_at "side"), ?_⟩
  | refine ⟨_, _, rfl, ?_⟩)
local macro_rules | `(tactic| walk_at "fld") => `(tactic| skip)
local macro_rules | `(tactic| walk_at "s") => `(tactic| repeat walk_at "1")
local macro_rules | `(tactic| walk_at "size") => `(tactic| first | exact Nat.le_of_ble_eq_true rfl | (simp only [List.length_map, List.length_append, List.length_cons, List.length_nil]; omega))
local macro_rules | `(tactic| walk_at "new") => `(tactic| (first | refine ⟨(by walk_at "size"), fun p hp => ?_⟩ | refine fun p hp => ?_); (generalize hq : upd _ p _ = H1); (obtain ⟨s, e⟩ := new_facts hp hq); clear hq)
/-! from where on steps come again -/
def mvS (l g : Int) (x : Stp) : Stp := (x.1 + l, x.2.map (· + g))
theorem mv_up (l g : Int) (x : Sti) : mvS l g (up x) = up (mv l g x) := rfl
/-- b: the least place from which on what stands up to b0 comes again -/
structure ShortS (w : List Stp) (L : Nat) (T M : Int) (b0 b : Nat) : Prop where
  le : b ≤ b0
  eq : ∀ n, b ≤ n → n < b0 → w[n + L]? = (w[n]?).map (mvS T M)
  least : b = 0 ∨ L = 0 ∨ w[b - 1 + L]? ≠ (w[b - 1]?).map (mvS T M)
  nil : L = 0 → b = b0
/-- what least_form gives -/
def formD (w : List Stp) (b L : Nat) (T M : Int) : PyData := .tuple [.tuple ((w.take b).map stD), .tuple (((w.drop b).take L).map stD), .int T, .int M]
theorem cut_to {xs : List V} {t : Nat} (h : t ≤ xs.length) : cutV xs none (some (t : Int)) = xs.take t := by
  unfold cutV
  rw [HT.sIx_nat, HT.sIx_none, Nat.min_eq_left h, Nat.sub_zero]
  rfl
theorem cut_mid {xs : List V} {b t : Nat} (h : t ≤ xs.length) (hb : b ≤ t) : cutV xs (some (b : Int)) (some (t : Int)) = (xs.drop b).take (t - b) := by
  unfold cutV
  rw [HT.sIx_nat, HT.sIx_nat, Nat.min_eq_left h, Nat.min_eq_left (Nat.le_trans hb h)]
theorem DvAll.take {H : Hp} : ∀ {xs : List V} {ds : List PyData}, DvAll H xs ds → ∀ n, DvAll H (xs.take n) (ds.take n)
  | _, _, _, 0 => .nil
  | _, [], h, n + 1 => by
    rw [h.inv0, List.take_nil, List.take_nil]
    exact .nil
  | _, d :: ds, h, n + 1 => by
    obtain ⟨x, ys, rfl, h1, h2⟩ := h.inv
    exact .cons h1 (DvAll.take h2 n)
theorem DvAll.drop {H : Hp} : ∀ {xs : List V} {ds : List PyData}, DvAll H xs ds → ∀ n, DvAll H (xs.drop n) (ds.drop n)
  | _, _, h, 0 => h
  | _, [], h, n + 1 => by
    rw [h.inv0, List.drop_nil, List.drop_nil]
    exact .nil
  | _, d :: ds, h, n + 1 => by
    obtain ⟨x, ys, rfl, h1, h2⟩ := h.inv
    exact DvAll.drop h2 n
theorem DvAll.at {H : Hp} : ∀ {xs : List V} {ds : List PyData}, DvAll H xs ds → ∀ {i : Nat} {d : PyData}, ds[i]? = some d → ∃ x, xs[i]? = some x ∧ Dv H x d
  | _, [], _, i, _, e => by cases i <;> cases e
  | _, d :: ds, h, 0, _, e => by
    obtain ⟨x, ys, rfl, h1, h2⟩ := h.inv
    cases e
    exact ⟨x, rfl, h1⟩
  | _, d :: ds, h, i + 1, _, e => by
    obtain ⟨x, ys, rfl, h1, h2⟩ := h.inv
    exact DvAll.at h2 (i := i) e
theorem up_inj {x y : Sti} (h : up x = up y) : x = y := by
  have q1 : (up x).1 = (up y).1 := congrArg Prod.fst h
  have q2 : (up x).2 = (up y).2 := congrArg Prod.snd h
  exact Prod.ext q1 (Option.some.inj q2)
theorem ups {fs : List Stp} (h : ∀ x ∈ fs, x.2 ≠ none) : ∃ gs : List Sti, fs = gs.map up := by
  refine ⟨fs.map fun x => (x.1, x.2.getD 0), ?_⟩
  rw [List.map_map]
  refine (List.map_id fs).symm.trans (List.map_congr_left fun x hx => ?_)
  obtain ⟨t, c⟩ := x
  cases c with
  | none => exact absurd rfl (h _ hx)
  | some c => rfl
def spShortS (K : PySem.W.Frag) : Sp := fun vs H Q _ => ∃ (aF aA : Addr) (xf xa : List V) (fs : List Stp) (as : List Sti) (T M : Int), vs = [.ref aF, .ref aA, .int T, .int M] ∧ SqS K H aF xf ∧ DvAll H xf (fs.map stD) ∧ SqS K H aA xa ∧ DvAll H xa (as.map siD) ∧
  fs.length ≤ 1000 ∧ as.length ≤ 1000 ∧ (as = [] ∨ ∀ x ∈ fs, x.2 ≠ none) ∧
  ∀ H' p b, Same H H' → H p = none → ShortS (fs ++ as.map up) as.length T M fs.length b → Dv H' (.ref p) (formD (fs ++ as.map up) b as.length T M) → Q (.ref p) H'
section
variable {P : Program} {w : World} {K : PySem.W.Frag} {mg : Str → Option Value} {base : Heap}
abbrev s_shortest_first : Stmt := topS 14
theorem sc_shortest_first : FnScope ["first", "again", "turn", "more", "whole", "begin"] ["first", "again", "turn", "more"] (defScope s_shortest_first) := ⟨rfl, rfl, rfl, by decide +kernel, rfl, by decide +kernel, by decide +kernel⟩
set_option maxHeartbeats 8000000 in
theorem ok_shortest_first (D : Df K mg "_shortest_first" s_shortest_first ["first", "again", "turn", "more"]) (T : Txt mg) (o_moved : Own P w K mg base "_moved" 1 ["steps", "lasts", "grow"] (spMoved K)) : Own P w K mg base "_shortest_first" 2 ["first", "again", "turn", "more"] (spShortS K) := by
  refine D.own sc_shortest_first (fun vs H Q E h => ?_) (fun fa cdv A outer s H vs Q E hr h => ?_)
  · obtain ⟨_, _, _, _, _, _, _, _, rfl, _⟩ := h
    rfl
  · obtain ⟨aF, aA, xf, xa, fs, as, t, m, rfl, hF, hXF, hA, hXA, lf, la, hne, k⟩ := h
    refine ⟨_, (pss_cons (ps_set (i := 4) sc_shortest_first.nd rfl (Or.inl rfl) (pe_lst (StX.pa_star (pv 0) (StX.pa_star (pv 1) pa_nil))))
  (pss_cons (ps_set (i := 5) sc_shortest_first.nd rfl (Or.inl rfl) (pe_callB call_len_seq (by rfl) T.len PySem.boot_len (pa_cons (pv 0) pa_nil)))
  (C8.pss_cut (ps_while PassesOwn.never (PW.pt (pw_and (pt_cmpR op_gt (pv 5) pe_int (nomark _)) (pw_and (pt_cmpR op_notN (pe_ix ix_tup (pe_ix ix_list (pv 4) (pe_op op_sub (pv 5) pe_int) (fun _ _ => rfl)) pe_int (fun _ _ => rfl)) pe_non (nomark _)) (pw_and1 (pt_cmpR op_gt (pe_callB call_len_seq (by rfl) T.len PySem.boot_len (pa_cons (pv 1) pa_nil)) pe_int (nomark _))))))
    (pss_cons (ps_if (pt_cmpR (op_neD hr.units) (pe_own o_moved (hr.mono (by decide)) (pa_cons (pe_lst (pa_cons (pe_ix ix_list (pv 4) (pe_op op_sub (pv 5) pe_int) (fun _ _ => rfl)) pa_nil)) (pa_cons (pv 2) (pa_cons (pv 3) pa_nil)))) (pe_lst (pa_cons (pe_ix ix_list (pv 4) (pe_op op_add (pe_op op_sub (pv 5) pe_int) (pe_callB call_len_seq (by rfl) T.len PySem.boot_len (pa_cons (pv 1) pa_nil))) (fun _ _ => rfl)) pa_nil)) (nomark _))
        (pss_one ps_break)
        pss_nil)
      (pss_one (ps_aug (i := 5) sc_shortest_first.nd rfl (Or.inl rfl) pe_int ip_sub))))
  (pss_one (ps_ret (pe_tup (pa_cons (pe_callTy call_tuple_of (by rfl) T.tuple (by decide +kernel) (pa_cons (pe_slice sl_list (pv 4) po_none (po_some (pv 5))) pa_nil)) (pa_cons (pe_callTy call_tuple_of (by rfl) T.tuple (by decide +kernel) (pa_cons (pe_slice sl_list (pv 4) (po_some (pv 5)) (po_some (pe_op op_add (pv 5) (pe_callB call_len_seq (by rfl) T.len PySem.boot_len (pa_cons (pv 1) pa_nil))))) pa_nil)) (pa_cons (pv 2) (pa_cons (pv 3) pa_nil)))))))))), ?_⟩
    have ef := hXF.len
    have ea := hXA.len
    rw [List.length_map] at ef ea
    obtain ⟨ws, hws⟩ : ∃ ws, ws = fs ++ as.map up := ⟨_, rfl⟩
    have lw : ws.length = fs.length + as.length := by rw [hws, List.length_append, List.length_map]
    refine ⟨_, rfl, aF, _, rfl, hF.symm, _, rfl, aA, _, rfl, hA.symm, ?_⟩
    refine ⟨Nat.le_of_lt (small2000 (by simp only [List.length_append, List.length_nil]; omega)), fun L nL => ?_⟩
    generalize hq : upd H L _ = H1
    obtain ⟨s1, e1⟩ := new_facts nL hq
    clear hq
    rw [List.append_nil] at e1
    have hXW : DvAll H1 (xf ++ xa) (ws.map stD) := by
      rw [hws, List.map_append, List.map_map]
      exact (hXF.same s1).app (hXA.same s1)
    have hA1 := s1.sqs hA
    have hF1 := s1.sqs hF
    clear hXF hXA hA hF
    rw [← hws] at k
    have lx : (xf ++ xa).length = ws.length := by rw [List.length_append]; omega
    generalize xf ++ xa = xw at e1 hXW lx
    refine ⟨_, rfl, aF, xf, rfl, hF1, ?_⟩
    rw [ef]
    refine ⟨fun σ' H' => ∃ b : Nat, σ' = [some (.ref aF), some (.ref aA), some (.int t), some (.int m), some (.ref L), some (.int (b : Nat))] ∧ Same H1 H' ∧ ShortS ws as.length t m fs.length b, ?_, ?_⟩
    · refine ⟨fun b σ' H' => b ≤ fs.length ∧ σ' = [some (.ref aF), some (.ref aA), some (.int t), some (.int m), some (.ref L), some (.int (b : Nat))] ∧ Same H1 H' ∧ (as.length = 0 → b = fs.length) ∧ ∀ n, b ≤ n → n < fs.length → ws[n + as.length]? = (ws[n]?).map (mvS t m),
        ⟨fs.length, Nat.le_refl _, rfl, Same.refl _, fun _ => rfl, fun n h1 h2 => absurd h1 (by omega)⟩, ?_⟩
      rintro b σ' H' ⟨hb, rfl, s2, hz, he⟩
      cases b with
      | zero =>
        refine ⟨_, rfl, _, _, rfl, rfl, _, rfl, ?_⟩
        rw [show decide ((0 : Int) < ((0 : Nat) : Int)) = false from rfl]
        refine iteF ?_
        refine iteF ?_
        exact ⟨0, rfl, s2, Nat.zero_le _, he, Or.inl rfl, hz⟩
      | succ b =>
        have lb : b < ws.length := by omega
        have ew : ws[b]? = some ws[b] := List.getElem?_eq_getElem lb
        have efs : ws[b]? = fs[b]? := by rw [hws, List.getElem?_append_left (by omega)]
        refine ⟨_, rfl, _, _, rfl, rfl, _, rfl, ?_⟩
        rw [decide_eq_true (by omega : (0 : Int) < ((b + 1 : Nat) : Int))]
        refine iteT ?_
        obtain ⟨v, hv, dv⟩ := (hXW.same s2).at (i := b) (d := stD ws[b]) (by rw [List.getElem?_map, ew]; rfl)
        obtain ⟨q, rfl, eq⟩ := dv_pr (x := prO ws[b]) dv
        refine ⟨_, rfl, _, rfl, _, _, rfl, rfl, _, _, _, _, rfl, rfl, SqL.of (s2 _ _ e1), at_of (by omega) hv, _, _, _, _, rfl, rfl, SqT.of eq, rfl, rfl, _, rfl, ?_⟩
        rw [cV_non, show (prO ws[b]).2 = ws[b].2 from rfl]
        have out : (as.length = 0 ∨ ws[b + as.length]? ≠ (ws[b]?).map (mvS t m)) → ∀ H3, Same H1 H3 → ∃ b' : Nat, [some (V.ref aF), some (V.ref aA), some (V.int t), some (V.int m), some (V.ref L), some (V.int ((b + 1 : Nat) : Int))] = [some (.ref aF), some (.ref aA), some (.int t), some (.int m), some (.ref L), some (.int (b' : Nat))] ∧ Same H1 H3 ∧ ShortS ws as.length t m fs.length b' := fun z H3 s3 =>
          ⟨b + 1, rfl, s3, hb, he, z.elim (fun z => Or.inr (Or.inl z)) fun z => Or.inr (Or.inr z), hz⟩
        have len0 : as.length = 0 → decide ((0 : Int) < (xa.length : Int)) = false := fun z => decide_eq_false (by omega)
        by_cases hae : as = []
        · have l0 : as.length = 0 := by rw [hae]; rfl
          cases hc : (ws[b].2).isNone with
          | true =>
            refine iteF ?_
            refine iteF ?_
            exact out (Or.inl l0) _ s2
          | false =>
            refine iteT ?_
            refine ⟨_, rfl, aA, xa, rfl, s2.sqs hA1, _, _, rfl, rfl, _, rfl, ?_⟩
            rw [len0 l0]
            refine iteF ?_
            exact out (Or.inl l0) _ s2
        · have l0 : 0 < as.length := List.length_pos_iff.mpr hae
          obtain ⟨us, hus⟩ : ∃ us : List Sti, ws = us.map up := by
            obtain ⟨gs, hg⟩ := ups (hne.resolve_left hae)
            exact ⟨gs ++ as, by rw [hws, hg, List.map_append]⟩
          have hXU : DvAll H1 xw (us.map siD) := by
            have := hXW
            rw [hus, List.map_map] at this
            exact this
          have lu : us.length = ws.length := by rw [hus, List.length_map]
          have ew2 : ∀ n, ws[n]? = (us[n]?).map up := fun n => by rw [hus, List.getElem?_map]
          have hn1 : ws[b].2.isNone = false := by
            have := ew2 b
            rw [ew, List.getElem?_eq_getElem (by omega)] at this
            rw [Option.some.inj this]
            rfl
          rw [hn1]
          refine iteT ?_
          refine ⟨_, rfl, aA, xa, rfl, s2.sqs hA1, _, _, rfl, rfl, _, rfl, ?_⟩
          rw [decide_eq_true (by omega : (0 : Int) < (xa.length : Int))]
          refine iteT ?_
          have hb1 : b < us.length := by omega
          have hb2 : b + as.length < us.length := by omega
          have eu1 : us[b]? = some us[b] := List.getElem?_eq_getElem hb1
          have eu2 : us[b + as.length]? = some us[b + as.length] := List.getElem?_eq_getElem hb2
          obtain ⟨v1, hv1, dv1⟩ := (hXU.same s2).at (i := b) (d := siD us[b]) (by rw [List.getElem?_map, eu1]; rfl)
          obtain ⟨v2, hv2, dv2⟩ := (hXU.same s2).at (i := b + as.length) (d := siD us[b + as.length]) (by rw [List.getElem?_map, eu2]; rfl)
          refine ⟨fun σ' H3 => σ' = [some (.ref aF), some (.ref aA), some (.int t), some (.int m), some (.ref L), some (.int (b : Nat))] ∧ Same H1 H3 ∧ ws[b + as.length]? = (ws[b]?).map (mvS t m), ?_, ?_⟩
          · rintro σ' H3 ⟨rfl, s3, e3⟩
            refine ⟨b, by omega, by omega, rfl, s3, fun z => by omega, fun n h1 h2 => ?_⟩
            by_cases e : n = b
            · rw [e]
              exact e3
            · exact he n (by omega) h2
          · refine ⟨_, rfl, _, rfl, _, _, rfl, rfl, _, _, _, _, rfl, rfl, SqL.of (s2 _ _ e1), at_of (by omega) hv1, Nat.le_of_ble_eq_true rfl, fun p np => ?_⟩
            generalize hq : upd H' p _ = H3
            obtain ⟨s3, e3⟩ := new_facts np hq
            clear hq
            refine ⟨_, rfl, _, rfl, p, _, [us[b]], t, m, rfl, Or.inl (SqL.of e3), .cons (dv1.same s3) .nil, by show 1 ≤ 2000; decide, fun H4 p4 ys s4 n4 e4 hY => ?_⟩
            have s24 := s2.trans (s3.trans s4)
            refine ⟨_, rfl, _, rfl, _, _, rfl, rfl, _, rfl, aA, xa, rfl, s24.sqs hA1, _, _, rfl, rfl, _, _, _, _, rfl, rfl, SqL.of (s24 _ _ e1), at_of (by omega) hv2, Nat.le_of_ble_eq_true rfl, fun p5 np5 => ?_⟩
            generalize hq : upd H4 p5 _ = H5
            obtain ⟨s5, e5⟩ := new_facts np5 hq
            clear hq
            have d1 : Dv H5 (.ref p4) (.list (([us[b]].map (mv t m)).map siD)) := .lst (s5 _ _ e4) (hY.same (off_same.trans s5)) (by show 1 ≤ 2000; decide)
            have d2 : Dv H5 (.ref p5) (.list ([us[b + as.length]].map siD)) := .lst e5 (.cons (dv2.same (s3.trans (s4.trans s5))) .nil) (by show 1 ≤ 2000; decide)
            refine ⟨_, _, d1.dp, d2.dp, shaped_si _, shaped_si _, ?_⟩
            rw [eqv_sil]
            refine ⟨_, rfl, ?_⟩
            have key : (ws[b + as.length]? = (ws[b]?).map (mvS t m)) ↔ mv t m us[b] = us[b + as.length] := by
              rw [ew2, ew2, eu1, eu2]
              show some (up us[b + as.length]) = some (up (mv t m us[b])) ↔ _
              constructor
              · intro q
                have q := Option.some.inj q
                exact (up_inj q).symm
              · intro q
                rw [q]
            by_cases hk : mv t m us[b] = us[b + as.length]
            · rw [decide_eq_true (by show [mv t m us[b]] = _; rw [hk])]
              refine iteF ?_
              refine ⟨_, rfl, _, _, rfl, rfl, ?_, s24.trans s5, key.mpr hk⟩
              show [some (V.ref aF), some (V.ref aA), some (V.int t), some (V.int m), some (V.ref L), some (V.int (((b + 1 : Nat) : Int) - 1))] = _
              rw [show ((b + 1 : Nat) : Int) - 1 = (b : Int) by omega]
            · rw [decide_eq_false (by intro q; exact hk (List.cons.inj q).1)]
              refine iteT ?_
              exact out (Or.inr fun q => hk (key.mp q)) _ (s24.trans s5)
    · rintro σ' H' ⟨b, rfl, s2, hb⟩
      have le := hb.le
      refine ⟨_, rfl, _, rfl, _, rfl, _, _, rfl, SqL.of (s2 _ _ e1), fun p1 n1 => ?_⟩
      generalize hq : upd H' p1 _ = H2
      obtain ⟨s3, e3⟩ := new_facts n1 hq
      clear hq
      rw [cut_to (by omega)] at e3
      refine ⟨p1, _, rfl, Or.inl ⟨SqL.of e3, fun p2 n2 => ?_⟩⟩
      generalize hq : upd H2 p2 _ = H3
      obtain ⟨s4, e4⟩ := new_facts n2 hq
      clear hq
      have s24 := s2.trans (s3.trans s4)
      refine ⟨_, rfl, _, rfl, _, rfl, _, rfl, _, rfl, aA, xa, rfl, s24.sqs hA1, _, _, rfl, rfl, _, rfl, _, _, rfl, SqL.of (s24 _ _ e1), fun p3 n3 => ?_⟩
      generalize hq : upd H3 p3 _ = H4
      obtain ⟨s5, e5⟩ := new_facts n3 hq
      clear hq
      rw [show (b : Int) + (xa.length : Int) = ((b + xa.length : Nat) : Int) by omega, cut_mid (by omega) (by omega), Nat.add_sub_cancel_left, ea] at e5
      refine ⟨p3, _, rfl, Or.inl ⟨SqL.of e5, fun p6 n6 => ?_⟩⟩
      generalize hq : upd H4 p6 _ = H6
      obtain ⟨s6, e6⟩ := new_facts n6 hq
      clear hq
      refine ⟨_, rfl, _, rfl, Nat.le_of_ble_eq_true rfl, fun p7 n7 => ?_⟩
      generalize hq : upd H6 p7 _ = H7
      obtain ⟨s7, e7⟩ := new_facts n7 hq
      clear hq
      have s27 := s24.trans (s5.trans (s6.trans s7))
      have n7' : H p7 = none := (s1.trans (s24.trans (s5.trans s6))).free n7
      have hX7 := hXW.same s27
      refine k H7 p7 b (s1.trans s27) n7' hb (.tup e7 (.cons (.tup (s7 _ _ (s6 _ _ (s5 _ _ e4))) ?_ ?_) (.cons (.tup (s7 _ _ e6) ?_ ?_) (.cons (.int _) (.cons (.int _) .nil)))) (by show 4 ≤ 2000; decide))
      · rw [List.map_take]
        exact hX7.take b
      · rw [List.length_map, List.length_take]
        omega
      · rw [List.map_take, List.map_drop]
        exact (hX7.drop b).take _
      · rw [List.length_map, List.length_take, List.length_drop]
        omega
end
end My

namespace My
open PySem PySem.Spec PyProof.Rows L2
local macro_rules | `(tactic| walk_at "side") => `(tactic| first | (dsimp only; omega) | exact ⟨by omega, by omega⟩ | exact Or.inl ⟨by omega, by omega⟩ | exact Or.inr ⟨by omega, by omega⟩ | decide)
local macro_rules | `(tactic| walk_at "sq") => `(tactic| first | assumption | exact SqL.of (by assumption) | exact SqT.of (by assumption) | (refine L2.Same.seq (by assumption) ?_; walk_at "sq") | (refine L2.Same.seqT (by assumption) ?_; walk_at "sq") | exact Or.inl (by walk_at "sq") | exact Or.inr (by walk_at "sq"))
local macro_rules | `(tactic| walk_at "1") => `(tactic| first
  | refine ⟨_, rfl, iteT ?_⟩
  | refine ⟨_, rfl, iteF ?_⟩
  | refine ⟨_, rfl, ?_⟩
  | refine ⟨_, _, rfl, rfl, (by walk_at "side"), ?_⟩
  | refine ⟨_, _, rfl, rfl, ?_⟩
  | refine ⟨_, _, _, _, true, rfl, .ty _, .base (.int _), kit_ty (a := "int") (by decide +kernel), ?_⟩
  | refine ⟨_, _, _, _, false, rfl, .ty _, .base (.int _), kit_ty (a := "int") (by decide +kernel), ?_⟩
  | refine ⟨_, _, rfl, (by walk_at "sq"), ?_⟩
  | refine ⟨_, _, _, _, rfl, rfl, (by walk_at "sq"), (by first | rfl | assumption), ?_⟩
  | refine Or.inl ⟨_, _, _, _, rfl, rfl, (by walk_at "sq"), (by first | rfl | assumption), ?_⟩
  | refine Or.inr (Or.inl ⟨_, _, _, _, rfl, rfl, (by walk_at "sq"), (by first | rfl | assumption), ?_⟩)
  | refine ⟨_, _, rfl, Or.inl ⟨(by walk_at "sq"), ?_⟩⟩
  | refine ⟨rfl, ?_⟩
  | refine iteT ?_
  | refine iteF ?_
  | refine ⟨_, _, _, _, _, rfl, (by assumption), (by assumption), (by assumption), (by assumption), ?_⟩
  | refine Or.inl ⟨_, rfl, ?_⟩
  | refine Or.inr ⟨_, rfl, ?_⟩
  | refine ⟨_, _, rfl, (by walk_at "side"), ?_⟩
  | refine ⟨_, _, rfl, ?_⟩)
local macro_rules | `(tactic| walk_at "fld") => `(tactic| skip)
local macro_rules | `(tactic| walk_at "s") => `(tactic| repeat walk_at "1")
local macro_rules | `(tactic| walk_at "size") => `(tactic| first | exact Nat.le_of_ble_eq_true rfl | (simp only [List.length_map, List.length_append, List.length_cons, List.length_nil]; omega))
local macro_rules | `(tactic| walk_at "new") => `(tactic| (first | refine ⟨(by walk_at "size"), fun p hp => ?_⟩ | refine fun p hp => ?_); (generalize hq : upd _ p _ = H1); (obtain ⟨s, e⟩ := new_facts hp hq); clear hq)
/-! the least form -/
structure FitsS (as : List Sti) (t m : Int) (p : Nat) : Prop where
  pos : 0 < p
  dvd : p ∣ as.length
  n1 : (t * p) % as.length = 0
  n2 : (m * p) % as.length = 0
  eq : as.drop p = (as.take (as.length - p)).map (mv (t * p / as.length) (m * p / as.length))
structure LeastP (as : List Sti) (t m : Int) (p : Nat) : Prop where
  le : p ≤ as.length
  pos : as ≠ [] → 0 < p
  fits : as ≠ [] → FitsS as t m p
  least : ∀ p', p' < p → ¬ FitsS as t m p'
theorem fitsS_whole {as : List Sti} {t m : Int} (h : as ≠ []) : FitsS as t m as.length :=
  ⟨List.length_pos_iff.mpr h, Nat.dvd_refl _, Int.mul_emod_left .., Int.mul_emod_left .., by simp⟩
theorem rd_sl {K : PySem.W.Frag} {H : Hp} {A : Addr} {xs : List V} {lo hi : Option Int} {Q : VK} (hS : SqS K H A xs) (nw : ¬ (HT.sIx xs.length 0 lo = 0 ∧ HT.sIx xs.length xs.length hi = xs.length))
    (k : ∀ p H', Same H H' → H p = none → SqS K H' p (cutV xs lo hi) → Q (.ref p) H') : rSlL K (.ref A) lo hi H Q ∨ rSlT K (.ref A) lo hi H Q := by
  rcases hS with hS | hS
  · exact Or.inl ⟨_, _, rfl, hS, fun p np => k _ _ (same_upd np) np (Or.inl (SqL.of upd_same))⟩
  · exact Or.inr ⟨_, _, rfl, hS, nw, fun p np => k _ _ (same_upd np) np (Or.inr (SqT.of upd_same))⟩
theorem cut_from {xs : List V} {t : Nat} (h : t ≤ xs.length) : cutV xs (some (t : Int)) none = xs.drop t := by
  unfold cutV
  rw [HT.sIx_nat, HT.sIx_none, Nat.min_eq_left h]
  exact List.take_of_length_le (by rw [List.length_drop]; omega)
def spLeastF (K : PySem.W.Frag) : Sp := fun vs H Q _ => ∃ (aF aA : Addr) (xf xa : List V) (fs : List Stp) (as : List Sti) (t m : Int), vs = [.ref aF, .ref aA, .int t, .int m] ∧ SqS K H aF xf ∧ DvAll H xf (fs.map stD) ∧ SqS K H aA xa ∧ DvAll H xa (as.map siD) ∧
  fs.length ≤ 1000 ∧ as.length ≤ 1000 ∧ (as = [] ∨ ∀ x ∈ fs, x.2 ≠ none) ∧ (as = [] → t = 0 ∧ m = 0) ∧
  ∀ H' r p b, Same H H' → H r = none → LeastP as t m p → ShortS (fs ++ (as.take p).map up) p (t * p / as.length) (m * p / as.length) fs.length b → Dv H' (.ref r) (formD (fs ++ (as.take p).map up) b p (t * p / as.length) (m * p / as.length)) → Q (.ref r) H'
section
variable {P : Program} {w : World} {K : PySem.W.Frag} {mg : Str → Option Value} {base : Heap}
abbrev s_least_form : Stmt := topS 12
theorem sc_least_form : FnScope ["first", "again", "turn", "more", "many", "part", "lasts", "grow"] ["first", "again", "turn", "more"] (defScope s_least_form) := ⟨rfl, rfl, rfl, by decide +kernel, rfl, by decide +kernel, by decide +kernel⟩
set_option maxHeartbeats 8000000 in
theorem ok_least_form (D : Df K mg "least_form" s_least_form ["first", "again", "turn", "more"]) (T : Txt mg) (o_moved : Own P w K mg base "_moved" 1 ["steps", "lasts", "grow"] (spMoved K))
    (o_shortest_first : Own P w K mg base "_shortest_first" 2 ["first", "again", "turn", "more"] (spShortS K)) : Own P w K mg base "least_form" 3 ["first", "again", "turn", "more"] (spLeastF K) := by
  refine D.own sc_least_form (fun vs H Q E h => ?_) (fun fa cdv A outer s H vs Q E hr h => ?_)
  · obtain ⟨_, _, _, _, _, _, _, _, rfl, _⟩ := h
    rfl
  · obtain ⟨aF, aA, xf, xa, fs, as, t, m, rfl, hF, hXF, hA, hXA, lf, la, hne, hz, k⟩ := h
    refine ⟨_, (pss_cons (ps_set (i := 4) sc_least_form.nd rfl (Or.inl rfl) (pe_callB call_len_seq (by rfl) T.len PySem.boot_len (pa_cons (pv 1) pa_nil)))
  (pss_cons (ps_for PassesOwn.never rfl (pi_range2 (by rfl) T.range (pa_cons pe_int (pa_cons (pv 4) pa_nil))) (pg_name (i := 5) sc_least_form.nd rfl (Or.inl rfl))
    (pss_one (ps_if (PW.pt (pw_and (pt_cmpR op_eq (pe_op op_mod (pv 4) (pv 5)) pe_int (nomark _)) (pw_and (pt_cmpR op_eq (pe_op op_mod (pe_op op_mul (pv 2) (pv 5)) (pv 4)) pe_int (nomark _)) (pw_and1 (pt_cmpR op_eq (pe_op op_mod (pe_op op_mul (pv 3) (pv 5)) (pv 4)) pe_int (nomark _))))))
        (pss_cons (ps_par (i := 6) (j := 7) (by rfl) sc_least_form.nd rfl rfl (by decide) rfl rfl (pa_cons (pe_op op_fdiv (pe_op op_mul (pv 2) (pv 5)) (pv 4)) (pa_cons (pe_op op_fdiv (pe_op op_mul (pv 3) (pv 5)) (pv 4)) pa_nil)) (by rfl))
          (pss_one (ps_if (pt_cmpR (op_eqD hr.units) (pe_callTy call_list_of (by rfl) T.list (by decide +kernel) (pa_cons (pe_slice (SlR.or sl_list sl_tup) (pv 1) (po_some (pv 5)) po_none) pa_nil)) (pe_own o_moved (hr.mono (by decide)) (pa_cons (pe_slice (SlR.or sl_list sl_tup) (pv 1) po_none (po_some (pe_op op_sub (pv 4) (pv 5)))) (pa_cons (pv 6) (pa_cons (pv 7) pa_nil)))) (nomark _))
            (pss_one (ps_ret (pe_own o_shortest_first (hr.mono (by decide)) (pa_cons (pv 0) (pa_cons (pe_slice (SlR.or sl_list sl_tup) (pv 1) po_none (po_some (pv 5))) (pa_cons (pv 6) (pa_cons (pv 7) pa_nil)))))))
            pss_nil)))
        pss_nil)))
  (pss_one (ps_ret (pe_own o_shortest_first (hr.mono (by decide)) (pa_cons (pv 0) (pa_cons (pv 1) (pa_cons (pv 2) (pa_cons (pv 3) pa_nil))))))))), ?_⟩
    have ef := hXF.len
    have ea := hXA.len
    rw [List.length_map] at ef ea
    refine ⟨_, rfl, aA, xa, rfl, hA, ?_⟩
    rw [ea]
    refine ⟨_, rfl, 1, as.length, rfl, ⟨by decide, by decide, by omega, by omega⟩, for_range (lo := 1) (n := ((as.length : Int) - 1).toNat) (fun i σ H' => ∃ y z u, σ = [some (.ref aF), some (.ref aA), some (.int t), some (.int m), some (.int (as.length : Int)), y, z, u] ∧ Same H H' ∧ ∀ p', p' < i + 1 → ¬ FitsS as t m p')
      ⟨_, _, _, rfl, Same.refl _, fun p' hp f => by have := f.pos; omega⟩ ?_ ?_⟩
    · rintro i σ H' hi ⟨y, z, u, rfl, s1, hno⟩
      have ei : (1 : Int) + (i : Int) = ((i + 1 : Nat) : Int) := by omega
      have hi1 : i + 1 < as.length := by omega
      rw [ei]
      have l0 : 0 < as.length := by omega
      have nxt : ∀ (y z u : Option V) (H3 : Hp), Same H H3 → ¬ FitsS as t m (i + 1) → ∃ y' z' u', [some (V.ref aF), some (.ref aA), some (.int t), some (.int m), some (.int (as.length : Int)), y, z, u] = [some (V.ref aF), some (.ref aA), some (.int t), some (.int m), some (.int (as.length : Int)), y', z', u'] ∧ Same H H3 ∧ ∀ p', p' < i + 1 + 1 → ¬ FitsS as t m p' := fun y z u H3 s3 h => ⟨y, z, u, rfl, s3, fun p' hp f => by
        by_cases e : p' = i + 1
        · rw [e] at f
          exact h f
        · exact hno p' (by omega) f⟩
      refine ⟨_, rfl, _, rfl, _, _, rfl, rfl, by omega, rfl, _, rfl, ?_⟩
      refine ite2 (fun c1 => ?_) (fun c1 => ?_)
      · have cm : ∀ j : Int, CMul j ((i + 1 : Nat) : Int) := fun j => Or.inr ⟨by omega, by omega⟩
        refine ⟨_, rfl, _, rfl, _, _, rfl, rfl, cm _, _, rfl, _, _, rfl, rfl, by omega, rfl, _, rfl, ?_⟩
        refine ite2 (fun c2 => ?_) (fun c2 => ?_)
        · refine ⟨_, rfl, _, rfl, _, _, rfl, rfl, cm _, _, rfl, _, _, rfl, rfl, by omega, rfl, _, rfl, ?_⟩
          refine ite2 (fun c3 => ?_) (fun c3 => ?_)
          · have hm1 : as.length % (i + 1) = 0 := by
              have := V.int.inj (of_decide_eq_true c1)
              omega
            have hm2 : (t * ((i + 1 : Nat) : Int)) % (as.length : Int) = 0 := V.int.inj (of_decide_eq_true c2)
            have hm3 : (m * ((i + 1 : Nat) : Int)) % (as.length : Int) = 0 := V.int.inj (of_decide_eq_true c3)
            refine ⟨_, rfl, _, rfl, _, _, rfl, rfl, cm _, _, rfl, _, _, rfl, rfl, ⟨by omega, by omega⟩, _, rfl, _, rfl, _, _, rfl, rfl, cm _, _, rfl, _, _, rfl, rfl, ⟨by omega, by omega⟩, _, _, rfl, ?_⟩
            obtain ⟨ls, hl⟩ : ∃ ls, t * ((i + 1 : Nat) : Int) / (as.length : Int) = ls := ⟨_, rfl⟩
            obtain ⟨gr, hg⟩ : ∃ gr, m * ((i + 1 : Nat) : Int) / (as.length : Int) = gr := ⟨_, rfl⟩
            have nw1 : ¬ (HT.sIx xa.length 0 (some ((i + 1 : Nat) : Int)) = 0 ∧ HT.sIx xa.length xa.length none = xa.length) := fun q => by
              have q1 := q.1
              rw [HT.sIx_nat] at q1
              omega
            have esub : ((as.length : Int) - ((i + 1 : Nat) : Int)) = ((as.length - (i + 1) : Nat) : Int) := by omega
            have nw2 : ¬ (HT.sIx xa.length 0 none = 0 ∧ HT.sIx xa.length xa.length (some ((as.length - (i + 1) : Nat) : Int)) = xa.length) := fun q => by
              have q1 := q.2
              rw [HT.sIx_nat] at q1
              omega
            have nw3 : ¬ (HT.sIx xa.length 0 none = 0 ∧ HT.sIx xa.length xa.length (some ((i + 1 : Nat) : Int)) = xa.length) := fun q => by
              have q1 := q.2
              rw [HT.sIx_nat] at q1
              omega
            refine ⟨_, rfl, _, rfl, _, rfl, rd_sl (s1.sqs hA) nw1 fun p2 H2 s2 n2 e2 => ?_⟩
            rw [cut_from (by omega)] at e2
            refine ⟨p2, _, rfl, e2, fun p3 n3 => ?_⟩
            generalize hq : upd H2 p3 _ = H3
            obtain ⟨s3, e3⟩ := new_facts n3 hq
            clear hq
            have s13 := s1.trans (s2.trans s3)
            refine ⟨_, rfl, _, rfl, _, rfl, _, _, rfl, rfl, _, rfl, ?_⟩
            rw [esub]
            refine rd_sl (s13.sqs hA) nw2 fun p4 H4 s4 n4 e4 => ?_
            rw [cut_to (by omega)] at e4
            have s14 := s13.trans s4
            have hX4 := hXA.same s14
            refine ⟨_, rfl, _, rfl, p4, _, as.take (as.length - (i + 1)), ls, gr, by rw [← hl, ← hg]; rfl, e4, by rw [List.map_take]; exact hX4.take _, by rw [List.length_take]; omega, fun H5 p5 ys s5 n5 e5 hY => ?_⟩
            have s15 := s14.trans s5
            have hX5 := hXA.same s15
            have d1 : Dv H5 (.ref p3) (.list ((as.drop (i + 1)).map siD)) := .lst (s5 _ _ (s4 _ _ e3)) (by rw [List.map_drop]; exact hX5.drop _) (by rw [List.length_map, List.length_drop]; omega)
            have d2 : Dv H5 (.ref p5) (.list (((as.take (as.length - (i + 1))).map (mv ls gr)).map siD)) := .lst e5 (hY.same off_same) (by rw [List.length_map, List.length_map, List.length_take]; omega)
            refine ⟨_, _, d1.dp, d2.dp, shaped_si _, shaped_si _, ?_⟩
            rw [eqv_sil]
            refine ⟨_, rfl, ?_⟩
            refine ite2 (fun c4 => ?_) (fun c4 => ?_)
            · have fit : FitsS as t m (i + 1) := ⟨by omega, Nat.dvd_of_mod_eq_zero hm1, hm2, hm3, by
                rw [hl, hg]
                exact of_decide_eq_true c4⟩
              refine ⟨_, rfl, _, rfl, _, rfl, _, rfl, ?_⟩
              refine rd_sl (s15.sqs hA) nw3 fun p6 H6 s6 n6 e6 => ?_
              rw [cut_to (by omega)] at e6
              have s16 := s15.trans s6
              have hX6 := hXA.same s16
              refine ⟨_, rfl, _, rfl, aF, p6, xf, _, fs, as.take (i + 1), ls, gr, by rw [← hl, ← hg]; rfl, s16.sqs hF, hXF.same s16, e6, by rw [List.map_take]; exact hX6.take _, lf, by rw [List.length_take]; omega, ?_, fun H7 r b s7 nr hb hd => ?_⟩
              · exact Or.inr (hne.resolve_left fun z => by rw [z] at l0; exact absurd l0 (by decide))
              · have et : (as.take (i + 1)).length = i + 1 := by rw [List.length_take]; omega
                rw [et] at hb hd
                refine k H7 r (i + 1) b (s16.trans s7) (s16.free nr) ⟨by omega, fun _ => by omega, fun _ => fit, fun p' hp => hno p' (by omega)⟩ ?_ ?_
                · rw [hl, hg]
                  exact hb
                · rw [hl, hg]
                  exact hd
            · exact nxt _ _ _ _ s15 fun f => c4 (decide_eq_true (by
                have := f.eq
                rw [hl, hg] at this
                exact this))
          · exact nxt _ _ _ _ s1 fun f => c3 (decide_eq_true (congrArg V.int f.n2))
        · refine iteF ?_
          exact nxt _ _ _ _ s1 fun f => c2 (decide_eq_true (congrArg V.int f.n1))
      · refine iteF ?_
        exact nxt _ _ _ _ s1 fun f => c1 (decide_eq_true (congrArg V.int (by have := Nat.mod_eq_zero_of_dvd f.dvd; omega)))
    · rintro σ H' ⟨y, z, u, rfl, s1, hno⟩
      have hF1 := s1.sqs hF
      have hA1 := s1.sqs hA
      refine ⟨_, rfl, _, rfl, _, rfl, _, rfl, aF, aA, xf, xa, fs, as, t, m, rfl, hF1, hXF.same s1, hA1, hXA.same s1, lf, la, hne, fun H3 r b s3 nr hb hd => ?_⟩
      have e1 : t * as.length / as.length = t := by
        by_cases h0 : as = []
        · rw [(hz h0).1, Int.zero_mul, Int.zero_ediv]
        · exact Int.mul_ediv_cancel _ (by have := List.length_pos_iff.mpr h0; omega)
      have e2 : m * as.length / as.length = m := by
        by_cases h0 : as = []
        · rw [(hz h0).2, Int.zero_mul, Int.zero_ediv]
        · exact Int.mul_ediv_cancel _ (by have := List.length_pos_iff.mpr h0; omega)
      have et : as.take as.length = as := List.take_length
      refine k H3 r as.length b (s1.trans s3) (s1.free nr) ⟨Nat.le_refl _, fun h => List.length_pos_iff.mpr h, fitsS_whole, fun p' hp => hno p' (by omega)⟩ ?_ ?_
      · rw [e1, e2, et]
        exact hb
      · rw [e1, e2, et]
        exact hd
end
end My

namespace My
open PySem PySem.Spec PyProof.Rows L2
local macro_rules | `(tactic| walk_at "side") => `(tactic| first | (dsimp only; omega) | exact ⟨by omega, by omega⟩ | exact Or.inl ⟨by omega, by omega⟩ | exact Or.inr ⟨by omega, by omega⟩ | decide)
local macro_rules | `(tactic| walk_at "sq") => `(tactic| first | assumption | exact SqL.of (by assumption) | exact SqT.of (by assumption) | (refine L2.Same.seq (by assumption) ?_; walk_at "sq") | (refine L2.Same.seqT (by assumption) ?_; walk_at "sq") | exact Or.inl (by walk_at "sq") | exact Or.inr (by walk_at "sq"))
local macro_rules | `(tactic| walk_at "1") => `(tactic| first
  | refine ⟨_, rfl, iteT ?_⟩
  | refine ⟨_, rfl, iteF ?_⟩
  | refine ⟨_, rfl, ?_⟩
  | refine ⟨_, _, rfl, rfl, (by walk_at "side"), ?_⟩
  | refine ⟨_, _, rfl, rfl, ?_⟩
  | refine ⟨_, _, _, _, true, rfl, .ty _, .base (.int _), kit_ty (a := "int") (by decide +kernel), ?_⟩
  | refine ⟨_, _, _, _, false, rfl, .ty _, .base (.int _), kit_ty (a := "int") (by decide +kernel), ?_⟩
  | refine ⟨_, _, rfl, (by walk_at "sq"), ?_⟩
  | refine ⟨_, _, _, _, rfl, rfl, (by walk_at "sq"), (by first | rfl | assumption), ?_⟩
  | refine Or.inl ⟨_, _, _, _, rfl, rfl, (by walk_at "sq"), (by first | rfl | assumption), ?_⟩
  | refine Or.inr (Or.inl ⟨_, _, _, _, rfl, rfl, (by walk_at "sq"), (by first | rfl | assumption), ?_⟩)
  | refine ⟨_, _, rfl, Or.inl ⟨(by walk_at "sq"), ?_⟩⟩
  | refine ⟨rfl, ?_⟩
  | refine iteT ?_
  | refine iteF ?_
  | refine ⟨_, _, _, _, _, rfl, (by assumption), (by assumption), (by assumption), (by assumption), ?_⟩
  | refine Or.inl ⟨_, rfl, ?_⟩
  | refine Or.inr ⟨_, rfl, ?_⟩
  | refine ⟨_, _, rfl, (by walk_at "side"), ?_⟩
  | refine ⟨_, _, rfl, ?_⟩)
local macro_rules | `(tactic| walk_at "fld") => `(tactic| skip)
local macro_rules | `(tactic| walk_at "s") => `(tactic| repeat walk_at "1")
local macro_rules | `(tactic| walk_at "size") => `(tactic| first | exact Nat.le_of_ble_eq_true rfl | (simp only [List.length_map, List.length_append, List.length_cons, List.length_nil]; omega))
local macro_rules | `(tactic| walk_at "new") => `(tactic| (first | refine ⟨(by walk_at "size"), fun p hp => ?_⟩ | refine fun p hp => ?_); (generalize hq : upd _ p _ = H1); (obtain ⟨s, e⟩ := new_facts hp hq); clear hq)
/-! what a tally tells -/
/-- n: how many steps are at a time at most -/
structure LastB (ds : List Stp) (t : Int) (n : Nat) : Prop where
  le : n ≤ ds.length
  lo : ∀ i x, i < n → ds[i]? = some x → x.1 ≤ t
  hi : ∀ i x, n ≤ i → ds[i]? = some x → t < x.1
def Asc (ds : List Stp) : Prop := ds.Pairwise fun x y => x.1 < y.1
theorem Asc.at {ds : List Stp} (h : Asc ds) {i j : Nat} {x y : Stp} (hi : ds[i]? = some x) (hj : ds[j]? = some y) (l : i ≤ j) : x.1 ≤ y.1 := by
  obtain ⟨li, rfl⟩ := List.getElem?_eq_some_iff.mp hi
  obtain ⟨lj, rfl⟩ := List.getElem?_eq_some_iff.mp hj
  by_cases e : i = j
  · subst e
    exact Int.le_refl _
  · exact Int.le_of_lt (List.pairwise_iff_getElem.mp h i j li lj (by omega))
def spLastBy : Sp := fun vs H Q _ => ∃ (a : Addr) (xs : List V) (ds : List Stp) (t : Int), vs = [.ref a, .int t] ∧ H a = some (.tup xs) ∧ DvAll H xs (ds.map stD) ∧ ds.length ≤ 2000 ∧ Asc ds ∧ ∀ n : Nat, LastB ds t n → Q (.int ((n : Int) - 1)) H
section
variable {P : Program} {w : World} {K : PySem.W.Frag} {mg : Str → Option Value} {base : Heap}
abbrev s_last_by : Stmt := topS 16
theorem sc_last_by : FnScope ["steps", "time", "low", "high", "middle"] ["steps", "time"] (defScope s_last_by) := ⟨rfl, rfl, rfl, by decide +kernel, rfl, by decide +kernel, by decide +kernel⟩
set_option maxHeartbeats 4000000 in
theorem ok_last_by (D : Df K mg "_last_by" s_last_by ["steps", "time"]) (T : Txt mg) : Own P w K mg base "_last_by" 1 ["steps", "time"] spLastBy := by
  refine D.own sc_last_by (fun vs H Q E h => ?_) (fun fa cdv A outer s H vs Q E hr h => ?_)
  · obtain ⟨_, _, _, _, rfl, _⟩ := h
    rfl
  · obtain ⟨a, xs, ds, t, rfl, ha, hX, hz, hs, k⟩ := h
    refine ⟨_, (pss_cons (ps_par (i := 2) (j := 3) (by rfl) sc_last_by.nd rfl rfl (by decide) rfl rfl (pa_cons pe_int (pa_cons (pe_callB call_len_seq (by rfl) T.len PySem.boot_len (pa_cons (pv 0) pa_nil)) pa_nil)) (by rfl))
  (pss_cons (ps_while PassesOwn.never (pt_cmpR op_lt (pv 2) (pv 3) (nomark _))
    (pss_cons (ps_set (i := 4) sc_last_by.nd rfl (Or.inl rfl) (pe_op op_fdiv (pe_op op_add (pv 2) (pv 3)) pe_int))
      (pss_one (ps_if (pt_cmpR op_le (pe_ix ix_tup (pe_ix ix_tup (pv 0) (pv 4) (fun _ _ => rfl)) pe_int (fun _ _ => rfl)) (pv 1) (nomark _))
        (pss_one (ps_set (i := 2) sc_last_by.nd rfl (Or.inl rfl) (pe_op op_add (pv 4) pe_int)))
        (pss_one (ps_set (i := 3) sc_last_by.nd rfl (Or.inl rfl) (pv 4)))))))
  (pss_one (ps_ret (pe_op op_sub (pv 2) pe_int))))), ?_⟩
    have hl := hX.len
    rw [List.length_map] at hl
    refine ⟨_, rfl, a, xs, rfl, Or.inr (SqT.of ha), _, _, rfl, ?_⟩
    refine ⟨fun m σ H' => ∃ (lo hi : Nat) (y : Option V), m = hi - lo ∧ σ = [some (.ref a), some (.int t), some (.int (lo : Nat)), some (.int (hi : Nat)), y] ∧ H' = H ∧ lo ≤ hi ∧ hi ≤ ds.length ∧ (∀ i x, i < lo → ds[i]? = some x → x.1 ≤ t) ∧ (∀ i x, hi ≤ i → ds[i]? = some x → t < x.1),
      ⟨_, 0, xs.length, none, rfl, rfl, rfl, Nat.zero_le _, by omega, fun i x h _ => absurd h (by omega), fun i x h e => absurd (List.getElem?_eq_some_iff.mp e).1 (by omega)⟩, ?_⟩
    rintro m σ H' ⟨lo, hi, y, rfl, rfl, rfl, h1, h2, h3, h4⟩
    refine ⟨_, rfl, _, rfl, _, _, rfl, rfl, _, rfl, ?_⟩
    refine ite2 (fun c => ?_) (fun c => ?_)
    · have c' : lo < hi := by
        have := of_decide_eq_true c
        omega
      have em : ((lo : Int) + (hi : Int)) / 2 = (((lo + hi) / 2 : Nat) : Int) := by omega
      have lm : (lo + hi) / 2 < ds.length := by omega
      have el : ds[(lo + hi) / 2]? = some ds[(lo + hi) / 2] := List.getElem?_eq_getElem lm
      obtain ⟨v, hv, dv⟩ := hX.at (i := (lo + hi) / 2) (d := stD ds[(lo + hi) / 2]) (by rw [List.getElem?_map, el]; rfl)
      obtain ⟨q, rfl, eq⟩ := dv_pr (x := prO ds[(lo + hi) / 2]) dv
      refine ⟨fun σ' H'' => ∃ (lo' hi' : Nat) (y' : Option V), hi' - lo' < hi - lo ∧ σ' = [some (.ref a), some (.int t), some (.int (lo' : Nat)), some (.int (hi' : Nat)), y'] ∧ H'' = H' ∧ lo' ≤ hi' ∧ hi' ≤ ds.length ∧ (∀ i x, i < lo' → ds[i]? = some x → x.1 ≤ t) ∧ (∀ i x, hi' ≤ i → ds[i]? = some x → t < x.1),
        fun σ' H'' ⟨lo', hi', y', l, r⟩ => ⟨_, l, lo', hi', y', rfl, r⟩, ?_⟩
      refine ⟨_, rfl, _, rfl, _, _, rfl, rfl, _, _, rfl, rfl, ⟨by decide, by decide⟩, ?_⟩
      refine ⟨_, rfl, _, rfl, _, _, _, _, rfl, rfl, SqT.of ha, at_of em hv, _, _, _, _, rfl, rfl, SqT.of eq, rfl, _, rfl, _, _, rfl, rfl, _, rfl, ?_⟩
      refine ite2 (fun c2 => ?_) (fun c2 => ?_)
      · have c2 : (ds[(lo + hi) / 2]).1 ≤ t := of_decide_eq_true c2
        refine ⟨_, rfl, _, _, rfl, rfl, (lo + hi) / 2 + 1, hi, some (.int (((lo + hi) / 2 : Nat) : Int)), by omega, ?_, rfl, by omega, h2, fun i x hi' ex => Int.le_trans (hs.at ex el (by omega)) c2, h4⟩
        show [some (V.ref a), some (V.int t), some (V.int (((lo : Int) + (hi : Int)) / 2 + 1)), some (V.int (hi : Nat)), some (V.int (((lo : Int) + (hi : Int)) / 2))] = _
        rw [em]
        rfl
      · have c2 : ¬ (ds[(lo + hi) / 2]).1 ≤ t := fun q => c2 (decide_eq_true q)
        refine ⟨_, rfl, lo, (lo + hi) / 2, some (.int (((lo + hi) / 2 : Nat) : Int)), by omega, ?_, rfl, by omega, by omega, h3, fun i x hi' ex => Int.lt_of_lt_of_le (by omega) (hs.at el ex hi')⟩
        show [some (V.ref a), some (V.int t), some (V.int (lo : Nat)), some (V.int (((lo : Int) + (hi : Int)) / 2)), some (V.int (((lo : Int) + (hi : Int)) / 2))] = _
        rw [em]
    · have c' : ¬ lo < hi := fun q => c (decide_eq_true (by omega))
      have e : lo = hi := by omega
      subst e
      exact ⟨_, rfl, _, _, rfl, rfl, k lo ⟨h2, h3, h4⟩⟩
end
end My

namespace My
open PySem PySem.Spec PyProof.Rows L2
local macro_rules | `(tactic| walk_at "side") => `(tactic| first | (dsimp only; omega) | exact ⟨by omega, by omega⟩ | exact Or.inl ⟨by omega, by omega⟩ | exact Or.inr ⟨by omega, by omega⟩ | decide)
local macro_rules | `(tactic| walk_at "sq") => `(tactic| first | assumption | exact SqL.of (by assumption) | exact SqT.of (by assumption) | (refine L2.Same.seq (by assumption) ?_; walk_at "sq") | (refine L2.Same.seqT (by assumption) ?_; walk_at "sq") | exact Or.inl (by walk_at "sq") | exact Or.inr (by walk_at "sq"))
local macro_rules | `(tactic| walk_at "1") => `(tactic| first
  | refine ⟨_, rfl, iteT ?_⟩
  | refine ⟨_, rfl, iteF ?_⟩
  | refine ⟨_, rfl, ?_⟩
  | refine ⟨_, _, rfl, rfl, (by walk_at "side"), ?_⟩
  | refine ⟨_, _, rfl, rfl, ?_⟩
  | refine ⟨_, _, _, _, true, rfl, .ty _, .base (.int _), kit_ty (a := "int") (by decide +kernel), ?_⟩
  | refine ⟨_, _, _, _, false, rfl, .ty _, .base (.int _), kit_ty (a := "int") (by decide +kernel), ?_⟩
  | refine ⟨_, _, rfl, (by walk_at "sq"), ?_⟩
  | refine ⟨_, _, _, _, rfl, rfl, (by walk_at "sq"), (by first | rfl | assumption), ?_⟩
  | refine Or.inl ⟨_, _, _, _, rfl, rfl, (by walk_at "sq"), (by first | rfl | assumption), ?_⟩
  | refine Or.inr (Or.inl ⟨_, _, _, _, rfl, rfl, (by walk_at "sq"), (by first | rfl | assumption), ?_⟩)
  | refine ⟨_, _, rfl, Or.inl ⟨(by walk_at "sq"), ?_⟩⟩
  | refine ⟨rfl, ?_⟩
  | refine iteT ?_
  | refine iteF ?_
  | refine ⟨_, _, _, _, _, rfl, (by assumption), (by assumption), (by assumption), (by assumption), ?_⟩
  | refine Or.inl ⟨_, rfl, ?_⟩
  | refine Or.inr ⟨_, rfl, ?_⟩
  | refine ⟨_, _, rfl, (by walk_at "side"), ?_⟩
  | refine ⟨_, _, rfl, ?_⟩)
local macro_rules | `(tactic| walk_at "fld") => `(tactic| skip)
local macro_rules | `(tactic| walk_at "s") => `(tactic| repeat walk_at "1")
local macro_rules | `(tactic| walk_at "size") => `(tactic| first | exact Nat.le_of_ble_eq_true rfl | (simp only [List.length_map, List.length_append, List.length_cons, List.length_nil]; omega))
local macro_rules | `(tactic| walk_at "new") => `(tactic| (first | refine ⟨(by walk_at "size"), fun p hp => ?_⟩ | refine fun p hp => ?_); (generalize hq : upd _ p _ = H1); (obtain ⟨s, e⟩ := new_facts hp hq); clear hq)
/-! tallies -/
def talF (u : Option Int) (pf pa : Addr) (t m : Int) : List (Str × V) := [("under", cV u), ("first", .ref pf), ("again", .ref pa), ("turn", .int t), ("more", .int m)]
/-- the object at p is a tally with these parts -/
def TalAt (C : Addr) (H : Hp) (p : Addr) (u : Option Int) (f : List Stp) (a : List Sti) (t m : Int) : Prop :=
  ∃ dx pf pa xf xa, H p = some (.ins C dx (talF u pf pa t m)) ∧ H pf = some (.tup xf) ∧ DvAll H xf (f.map stD) ∧ H pa = some (.tup xa) ∧ DvAll H xa (a.map siD)
theorem TalAt.same {C : Addr} {H H' : Hp} {p : Addr} {u : Option Int} {f : List Stp} {a : List Sti} {t m : Int} (h : TalAt C H p u f a t m) (s : Same H H') : TalAt C H' p u f a t m := by
  obtain ⟨dx, pf, pa, xf, xa, h1, h2, h3, h4, h5⟩ := h
  exact ⟨dx, pf, pa, xf, xa, s _ _ h1, s _ _ h2, h3.same s, s _ _ h4, h5.same s⟩
structure TalCls (K : PySem.W.Frag) (C : Addr) : Prop where
  cl : Cls K C
  nU : NoAttr K C "under"
  nF : NoAttr K C "first"
  nA : NoAttr K C "again"
  nT : NoAttr K C "turn"
  nM : NoAttr K C "more"
/-- what is asked of a tally's parts -/
structure PartsT (f : List Stp) (a : List Sti) (t m : Int) : Prop where
  lf : f.length ≤ 1000
  la : a.length ≤ 1000
  sf : Asc f
  sa : Asc (a.map up)
  t0 : a ≠ [] → 0 < t
  t1 : t < 1000000
  m0 : 0 ≤ m
  m1 : m < 1000000
/-- what a tally tells at a time -/
inductive ToldT (u : Option Int) (f : List Stp) (a : List Sti) (t m : Int) (time : Int) : Option Int → Prop
  | rep (x y : Sti) (n : Nat) (h : a.head? = some x) (l : x.1 ≤ time) (e : LastB (a.map up) (x.1 + (time - x.1) % t) (n + 1)) (g : a[n]? = some y) : ToldT u f a t m time (some (y.2 + (time - x.1) / t * m))
  | none (h : ∀ x, a.head? = some x → time < x.1) (e : LastB f time 0) : ToldT u f a t m time u
  | some (y : Stp) (n : Nat) (h : ∀ x, a.head? = some x → time < x.1) (e : LastB f time (n + 1)) (g : f[n]? = some y) : ToldT u f a t m time y.2
def spTold (C : Addr) : Sp := fun vs H Q _ => ∃ (p : Addr) (u : Option Int) (f : List Stp) (a : List Sti) (t m time : Int), vs = [.ref p, .int time] ∧ TalAt C H p u f a t m ∧ PartsT f a t m ∧ ∀ H' v, Same H H' → ToldT u f a t m time v → Q (cV v) H'
section
variable {P : Program} {w : World} {K : PySem.W.Frag} {mg : Str → Option Value} {base : Heap} {C : Addr}
abbrev s_told_by : Stmt := topS 15
theorem sc_told_by : FnScope ["steps", "time", "turns", "rest", "at"] ["steps", "time"] (defScope s_told_by) := ⟨rfl, rfl, rfl, by decide +kernel, rfl, by decide +kernel, by decide +kernel⟩
set_option maxHeartbeats 8000000 in
theorem ok_told_by (D : Df K mg "told_by" s_told_by ["steps", "time"]) (T : Txt mg) (R : TalCls K C) (o_last_by : Own P w K mg base "_last_by" 1 ["steps", "time"] spLastBy) : Own P w K mg base "told_by" 2 ["steps", "time"] (spTold C) := by
  refine D.own sc_told_by (fun vs H Q E h => ?_) (fun fa cdv A outer s H vs Q E hr h => ?_)
  · obtain ⟨_, _, _, _, _, _, _, rfl, _⟩ := h
    rfl
  · obtain ⟨p, u, f, a, t, m, time, rfl, ⟨dx, pf, pa, xf, xa, h1, h2, h3, h4, h5⟩, ok, k⟩ := h
    refine ⟨_, (pss_cons (ps_if (PW.pt (pw_and (pt_cmpR op_gt (pe_callB call_len_seq (by rfl) T.len PySem.boot_len (pa_cons (pe_fld (pv 0) rfl) pa_nil)) pe_int (nomark _)) (pw_and1 (pt_cmpR op_ge (pv 1) (pe_ix ix_tup (pe_ix ix_tup (pe_fld (pv 0) rfl) pe_int (fun _ _ => rfl)) pe_int (fun _ _ => rfl)) (nomark _)))))
    (pss_cons (ps_asg (pe_callB call_divmod (by rfl) T.divmod (by decide +kernel) (pa_cons (pe_op op_sub (pv 1) (pe_ix ix_tup (pe_ix ix_tup (pe_fld (pv 0) rfl) pe_int (fun _ _ => rfl)) pe_int (fun _ _ => rfl))) (pa_cons (pe_fld (pv 0) rfl) pa_nil))) (pg_tup (by rfl) (pgs_cons (pg_name (i := 2) sc_told_by.nd rfl (Or.inl rfl)) (pgs_cons (pg_name (i := 3) sc_told_by.nd rfl (Or.inl rfl)) pgs_nil))))
      (pss_cons (ps_set (i := 4) sc_told_by.nd rfl (Or.inl rfl) (pe_own o_last_by (hr.mono (by decide)) (pa_cons (pe_fld (pv 0) rfl) (pa_cons (pe_op op_add (pe_ix ix_tup (pe_ix ix_tup (pe_fld (pv 0) rfl) pe_int (fun _ _ => rfl)) pe_int (fun _ _ => rfl)) (pv 3)) pa_nil))))
      (pss_one (ps_ret (pe_op op_add (pe_ix ix_tup (pe_ix ix_tup (pe_fld (pv 0) rfl) (pv 4) (fun _ _ => rfl)) pe_int (fun _ _ => rfl)) (pe_op op_mul (pv 2) (pe_fld (pv 0) rfl)))))))
    pss_nil)
  (pss_cons (ps_set (i := 4) sc_told_by.nd rfl (Or.inl rfl) (pe_own o_last_by (hr.mono (by decide)) (pa_cons (pe_fld (pv 0) rfl) (pa_cons (pv 1) pa_nil))))
  (pss_one (ps_ret (pe_ifExp (pt_cmpR op_lt (pv 4) pe_int (nomark _)) (pe_fld (pv 0) rfl) (pe_ix ix_tup (pe_ix ix_tup (pe_fld (pv 0) rfl) (pv 4) (fun _ _ => rfl)) pe_int (fun _ _ => rfl))))))), ?_⟩
    have la := h5.len
    have lf := h3.len
    rw [List.length_map] at la lf
    have ltu : (talF u pf pa t m).lookup ("under" : Str) = some (cV u) := rfl
    have ltf : (talF u pf pa t m).lookup ("first" : Str) = some (.ref pf) := rfl
    have lta : (talF u pf pa t m).lookup ("again" : Str) = some (.ref pa) := rfl
    have ltt : (talF u pf pa t m).lookup ("turn" : Str) = some (.int t) := rfl
    have ltm : (talF u pf pa t m).lookup ("more" : Str) = some (.int m) := rfl
    suffices rest : (∀ x, a.head? = some x → time < x.1) → _ by
      refine ⟨_, rfl, p, C, dx, _, _, rfl, h1, R.cl, R.nA, lta, pa, xa, rfl, Or.inr (SqT.of h4), _, _, rfl, rfl, _, rfl, ?_⟩
      rw [la]
      cases a with
      | nil =>
        refine iteF ?_
        refine iteF ?_
        exact rest (fun x hx => nomatch hx)
      | cons x r =>
        rw [decide_eq_true (by rw [List.length_cons]; omega)]
        refine iteT ?_
        obtain ⟨v, ys, rfl, dv, _⟩ := DvAll.inv (d := siD x) (ds := r.map siD) h5
        obtain ⟨q, rfl, eq⟩ := dv_si dv
        refine ⟨_, rfl, _, rfl, p, C, dx, _, _, rfl, h1, R.cl, R.nA, lta, _, _, _, _, rfl, rfl, SqT.of h4, atI_nat (j := 0) rfl, _, _, _, _, rfl, rfl, SqT.of eq, rfl, _, _, rfl, rfl, _, rfl, ?_⟩
        refine ite2 (fun c => ?_) (fun c => ?_)
        · have c' : x.1 ≤ time := of_decide_eq_true c
          have t0 := ok.t0 (by simp)
          have t1 := ok.t1
          refine ⟨_, rfl, _, rfl, p, C, dx, _, _, rfl, h1, R.cl, R.nA, lta, _, _, _, _, rfl, rfl, SqT.of h4, atI_nat (j := 0) rfl, _, _, _, _, rfl, rfl, SqT.of eq, rfl, _, _, rfl, rfl, _, rfl, p, C, dx, _, _, rfl, h1, R.cl, R.nT, ltt, _, _, rfl, ⟨t0, by omega⟩, fun p1 n1 => ?_⟩
          generalize hq : upd H p1 _ = H1
          obtain ⟨s1, e1⟩ := new_facts n1 hq
          clear hq
          have h1' := s1 _ _ h1
          have h4' := s1 _ _ h4
          have eq' := s1 _ _ eq
          have h5' := h5.same s1
          have em := Int.emod_nonneg (time - x.1) (by omega : t ≠ 0)
          refine ⟨p1, _, rfl, SqT.of e1, rfl, _, _, rfl, _, _, rfl, rfl, ?_⟩
          refine ⟨_, rfl, p, C, dx, _, _, rfl, h1', R.cl, R.nA, lta, _, rfl, p, C, dx, _, _, rfl, h1', R.cl, R.nA, lta, _, _, _, _, rfl, rfl, SqT.of h4', atI_nat (j := 0) rfl, _, _, _, _, rfl, rfl, SqT.of eq', rfl, _, rfl, _, _, rfl, rfl, pa, _, (x :: r).map up, _, rfl, h4', by rw [List.map_map]; exact h5', by rw [List.length_map]; have := ok.la; omega, ok.sa, fun n hn => ?_⟩
          cases n with
          | zero =>
            have := hn.hi 0 (up x) (Nat.le_refl _) rfl
            have this : x.1 + (time - x.1) % t < x.1 := this
            omega
          | succ n =>
            have lr : n < (x :: r).length := by
              have := hn.le
              rw [List.length_map] at this
              omega
            have el : (x :: r)[n]? = some (x :: r)[n] := List.getElem?_eq_getElem lr
            obtain ⟨v, hv, dv2⟩ := h5'.at (i := n) (d := siD (x :: r)[n]) (by rw [List.getElem?_map, el]; rfl)
            obtain ⟨q2, rfl, eq2⟩ := dv_si dv2
            have m0 := ok.m0
            have m1 := ok.m1
            refine ⟨_, rfl, p, C, dx, _, _, rfl, h1', R.cl, R.nA, lta, _, rfl, _, _, _, _, rfl, rfl, SqT.of h4', at_of (by omega) hv, _, _, _, _, rfl, rfl, SqT.of eq2, rfl, _, rfl, _, rfl, p, C, dx, _, _, rfl, h1', R.cl, R.nM, ltm, _, _, rfl, rfl, Or.inr ⟨by omega, by omega⟩, _, _, rfl, rfl, ?_⟩
            exact k _ _ s1 (.rep x _ n rfl c' hn el)
        · exact rest (fun x' hx => by
            cases hx
            have : ¬ x.1 ≤ time := fun q => c (decide_eq_true q)
            omega)
    intro hlt
    refine ⟨_, rfl, p, C, dx, _, _, rfl, h1, R.cl, R.nF, ltf, _, rfl, pf, xf, f, time, rfl, h2, h3, by have := ok.lf; omega, ok.sf, fun n hn => ?_⟩
    refine ⟨_, rfl, _, _, rfl, rfl, _, rfl, ?_⟩
    cases n with
    | zero =>
      refine iteT ?_
      exact ⟨_, rfl, p, C, dx, _, _, rfl, h1, R.cl, R.nU, ltu, k _ _ (Same.refl _) (.none hlt hn)⟩
    | succ n =>
      rw [decide_eq_false (by omega)]
      refine iteF ?_
      have el : f[n]? = some (f[n]'(by have := hn.le; omega)) := List.getElem?_eq_getElem _
      obtain ⟨v, hv, dv⟩ := h3.at (i := n) (d := stD _) (by rw [List.getElem?_map, el]; rfl)
      obtain ⟨q, rfl, eq⟩ := dv_pr (x := prO _) dv
      refine ⟨_, rfl, p, C, dx, _, _, rfl, h1, R.cl, R.nF, ltf, _, rfl, _, _, _, _, rfl, rfl, SqT.of h2, at_of (by omega) hv, _, _, _, _, rfl, rfl, SqT.of eq, rfl, ?_⟩
      exact k _ _ (Same.refl _) (.some _ n hlt hn el)
end
end My

namespace My
open PySem PySem.Spec PyProof.Rows L2
/-! ## list.count of a text; a staticmethod called on its class; defs that raise -/
section
variable {X : Cx}
theorem countU {z : Str} : ∀ {us : List Value} {ws : List Str}, Vals (ws.map V.str) us → us.countP (eqU (.str z)) = ws.countP (fun y => decide (y = z))
  | _, [], .nil => rfl
  | _, w :: ws, .cons r h => by
    have ih := countU (z := z) h
    rw [List.countP_cons, List.countP_cons, ih, eqU_of r rfl]
    have : eqV (.str w) (.str z) = decide (w = z) := by
      show (w == z) = decide (w = z)
      by_cases e : w = z
      · rw [e, decide_eq_true rfl]; exact beq_self_eq_true z
      · rw [decide_eq_false e]; exact beq_eq_false_iff_ne.mpr e
    rw [this]
theorem flat_strs : ∀ ws : List Str, (ws.map V.str).all flatV = true
  | [] => rfl
  | w :: ws => by
    rw [List.map_cons, List.all_cons, flat_strs ws]
    rfl
def rCntS (K : PySem.W.Frag) : V → List V → Hp → VK → Prop := fun x xs H Q => ∃ (p : Addr) (ws : List Str) (z : Str), x = .ref p ∧ xs = [.str z] ∧ SqL K H p (ws.map V.str) ∧ Q (.int (ws.countP fun y => decide (y = z) : Nat)) H
theorem mt_scount : MtR X "list.count" (rCntS X.K) := by
  intro pins s σ H x xs v us Q I rx rxs h
  obtain ⟨p, ns, k, rfl, rfl, hs, q⟩ := h
  cases rx
  obtain ⟨u, rfl, ru⟩ := rxs.one
  obtain ⟨its, rv, ⟨⟨cls, dd, data, sl⟩, n, ho, hc, hdn, hd⟩, hlen⟩ := I.list hs
  simp only at hc hd
  subst hc hd
  refine call_meets PySem.F.slot_list_count ⟨_, ho, rfl⟩ PySem.F.entry_list_count (PySem.F.args_list_count_2 _ _)
    (SeqAt.list_countAt p its.toArray n dd sl u (eqU (.str k))) ⟨ho, fun y hy => mem_eqAt ru rfl rv (flat_strs ns) y (by simpa using hy), ?_⟩
  have ec : its.toArray.toList.countP (eqU (.str k)) = ns.countP (fun y => decide (y = k)) := countU rv
  refine ⟨.int (ns.countP fun y => decide (y = k) : Nat), H, I.tok _, ⟨s.toks, ?_⟩, q⟩
  show Value.int ((its.toArray.toList.countP (eqU (.str k)) : Nat) : Int) s.toks = Value.int ((ns.countP fun y => decide (y = k) : Nat) : Int) s.toks
  rw [ec]
end
/-- m is a staticmethod of the class C: its record at p, its def at f -/
structure SMet (K : PySem.W.Frag) (C : Addr) (m : Str) (p f : Addr) : Prop where
  rd : PySem.W.readsIn K C (.type "type") = true
  ga : PySem.W.specialIn K (.ref C) "__getattribute__" = some (some (.builtin "type.__getattribute__"))
  at_ : PySem.W.findCls K (.ref C) (.type "type") m = some (.get (.builtin "staticmethod.__get__") (.ref p) .none (.ref C))
  rc : ∃ rest, PySem.W.recIn K p "staticmethod" = some (.ref f :: rest)
  kp : PySem.W.keepIn K (.ref f) = true
def tSMeth (C : Addr) (sp : Sp) (E : L2.St → XK) (ta : TE) (t : TA) : TE := fun σ H Q => ta σ H fun x H1 => x = .ref C ∧ t σ H1 fun vs H2 => sp vs H2 Q (E σ)
section
variable {X : Cx} {CX : CXT} {k : Nat} {f C p : Addr} {fd : FuncData} {ps : List Str} {sp : Sp} {E : L2.St → XK} {x m : Str} {pos apos : Pos} {e o : Expr} {es : List Expr} {ta : TE} {t : TA} {pl : Sem Bool}
theorem pe_smeth (he : PE X o ta) (c : SMet X.K C m p f) (F : FnOk X.prog X.w X.K X.mg X.base CX k f fd ps sp) (hr : Room k X.A) (hb : Binds X.K fd ps []) (hx : ∀ σ, PassesAt CX X σ (E σ)) (ha : PA X (e :: es) t)
    (hst : starEach (e :: es) X.env = (false, eval e X.env) :: starEach es X.env := by rfl) (hpl : (backTo pos (starEach es X.env)).any (·.1) = false := by rfl)
    (ht : eval (.Call (.Attribute o m apos) (e :: es) [] pos) X.env = (do
      let ov ← eval o X.env
      standAt apos.atName
      let (f, first) ← holding [ov] (getMethod ov m pl)
      callWith pos f first (backTo pos (starEach (e :: es) X.env)) (backToKw pos (keywordEach [] X.env))) := by rfl) :
    PE X (.Call (.Attribute o m apos) (e :: es) [] pos) (tSMeth C sp E ta t) := by
  refine ⟨fun pins s σ H Q I h => ?_⟩
  refine PySem.W.methodCall_KW (pl := pl) (thn (he.run pins s σ H _ I h) fun u s1 ⟨x, H1, I1, rx, ex, q⟩ => ?_) ht
  subst ex
  obtain rfl : u = Value.ref C := rx
  obtain ⟨rest, hp⟩ := c.rc
  refine PySem.W.method_cls I1.kIn c.ga (PySem.W.cls_bind I1.kIn c.rd c.at_ (wpAny_call (PySem.W.sm_get (s := { s1 with toks := s1.toks + 1 }) I1.kIn hp (PySem.W.handed_on rfl ?_))))
  have I2 := I1.tok (s1.toks + 1)
  refine PySem.W.callWith_K (h₀ := X.base) I2.ok.mod.kin c.kp (thn (ha.run pos pins _ σ H1 _ I2 q) fun us s3 ⟨vs, H2, I3, r, q2⟩ => ⟨I3.kIn, ?_⟩) hst hpl
  exact run_fnS F hr hb (hx σ) I3 r q2
end
/-! ### defs that raise -/
section
variable {P : Program} {w : World} {K : PySem.W.Frag} {mg : Str → Option Value} {base : Heap}
/-- the module's name x is a def that keeps a promise, and lets out what it tells -/
structure OwnX (P : Program) (w : World) (K : PySem.W.Frag) (mg : Str → Option Value) (base : Heap) (x : Str) (k : Nat) (ps : List Str) (sp : Sp) : Prop where
  ex : ∃ f fd, FnOk P w K mg base (L2.CX P w) k f fd ps sp ∧ mg x = some (.ref f) ∧ PySem.W.keepIn K (.ref f) = true ∧ Binds K fd ps []
theorem Df.ownX {x : Str} {st : Stmt} {ps N : List Str} {k : Nat} {sp : Sp} (D : Df K mg x st ps) (S : FnScope N ps (defScope st)) (len : ∀ vs H Q E, sp vs H Q E → vs.length = ps.length)
    (hbody : ∀ (f : Addr) (cdv : Value) (A : Around) (outer : List Env) (s : Shared) (H : Hp) (vs : List V) (Q : VK) (E : XK), Room k (A.deeper (envOfC x (defScope st) s.heap.objs.size f cdv)) → sp vs H Q E →
      ∃ t, PSs (cxOf (L2.CX P w) P w K mg base N x (defScope st) f cdv A outer s H E) (defBody st) t ∧ t { nx := fun _ H' => Q .non H', rt := Q } (start N vs) H) : OwnX P w K mg base x (k + 1) ps sp := by
  obtain ⟨f, fd, F, m, b⟩ := D.ex
  exact ⟨f, fd, F.okX S len (hbody f), m, F.kp, b⟩
end
section
variable {X : Cx} {x : Str} {p pos : Pos} {e : Expr} {es : List Expr} {t : TA} {k : Nat} {ps : List Str} {sp : Sp} {W : WX}
theorem pe_ownX (O : OwnX X.prog X.w X.K X.mg X.base x k ps sp) (hr : Room k X.A) (tk : Takes X W) (ha : PA X (e :: es) t) (hg : Gl X x := by exact rfl) (hdb : (x == ("__debug__" : Str)) = false := by decide)
    (he : starEach (e :: es) X.env = (false, eval e X.env) :: starEach es X.env := by rfl) (hpl : (backTo pos (starEach es X.env)).any (·.1) = false := by rfl) : PE X (.Call (.Name x p) (e :: es) [] pos) (tCallS sp (WE W) t) := by
  obtain ⟨f, fd, G, hm, hk, hb⟩ := O.ex
  exact pe_callS G hr hg hm hk hb (fun σ => passAt tk σ) ha hdb he hpl
end
end My

/-! several except clauses, each with a name for the error or without one -/
namespace My
open PySem PySem.Spec PyProof.Rows L2
/-- behind a suite whose error has a name: slot i is emptied -/
def endsAs (D : Ends) (i : Nat) : Ends := { nx := fun σ' H' => D.nx (σ'.set i none) H', rt := D.rt, bk := fun σ' H' => D.bk (σ'.set i none) H', ct := fun σ' H' => D.ct (σ'.set i none) H' }
/-- a clause: its class, the slot of its name, its suite -/
structure Clause where
  cls : Value
  slot : Option Nat
  ts : Addr → Value → Option Addr → TS
def Clause.wish (k : Clause) (D : Ends) (a : Addr) (cls : Value) (d : Option Addr) (σ : L2.St) (H : Hp) : Prop := match k.slot with
  | none => k.ts a cls d D σ H
  | some i => k.ts a cls d (endsAs D i) (σ.set i (some (.ref a))) H
def wCls (K : PySem.W.Frag) (Wout : WX) (D : Ends) : List Clause → WX
  | [] => Wout
  | k :: r => fun cls d σ H => ∃ b, PySem.W.exmOne K cls k.cls = some b ∧ (b = true → ∀ a, H a = none → k.wish D a cls d σ H) ∧ (b = false → wCls K Wout D r cls d σ H)
/-- the handler is the clause -/
structure IsClause (X : Cx) (h : ExceptHandler) (k : Clause) : Prop where
  ex : ∃ (x : Str) (np pos' : Pos) (b₀ : Stmt) (suite : List Stmt) (on : Option Str), h = .ExceptHandler (some (.Name x np)) on (b₀ :: suite) pos' ∧ Names X x k.cls ∧
    (∀ (a : Addr) (oe : Obj) (cls : Value) (d : Option Addr) (pn : List (Addr × Obj)), Zc cls d oe → (∃ vs, oe.data = .fields vs) → PSs (X.suite a ((a, oe) :: pn)) (b₀ :: suite) (k.ts a cls d)) ∧
    ((on = none ∧ k.slot = none) ∨ ∃ n i, on = some n ∧ k.slot = some i ∧ X.N[i]? = some n ∧ X.env.kindOf n = some .local)
inductive AreClauses (X : Cx) : List ExceptHandler → List Clause → Prop
  | nil : AreClauses X [] []
  | cons {h : ExceptHandler} {k : Clause} {hs : List ExceptHandler} {ks : List Clause} : IsClause X h k → AreClauses X hs ks → AreClauses X (h :: hs) (k :: ks)
section
variable {X : Cx} {body : List Stmt} {h₀ : ExceptHandler} {hds : List ExceptHandler} {ks : List Clause} {pos : Pos} {tb : WX → TS} {Wout : WX}
theorem ps_try_cls (hst : X.stack = X.env :: X.outer) (hfr : X.env.frame = some X.env.locals) (hN : X.N.Nodup) (tk : Takes X Wout)
    (hb : ∀ (W : WX) (pn : List (Addr × Obj)) (xe : Value → Shared → Prop), Takes (X.tr pn xe) W → PassesOwn (model X.prog X.w) X.A X.env xe → PSs (X.tr pn xe) body (tb W))
    (hk : AreClauses X (h₀ :: hds) ks) : PS X (.Try body (h₀ :: hds) [] [] pos) (fun D σ H => tb (wCls X.K Wout D ks) D σ H) := by
  refine ⟨fun pins s σ H D I h => ?_⟩
  have ok := I.ok
  have frames : X.A.frames = some (X.env :: X.outer) := ok.frames.trans (congrArg some hst)
  let W := wCls X.K Wout D ks
  let xe := fun e s₁ => wpAny (model X.prog X.w) X.A (noteFrame e X.env) (fun _ s₂ => wpAny (model X.prog X.w) X.A (setFlight e none) (fun _ s₃ => wpAny (model X.prog X.w) X.A (handleBy e X.env (h₀ :: hds)) (SP X pins D) X.xe s₃) X.xe s₂) X.xe s₁
  refine wpAny_Try_except (wpAny_mono ((hb W (X.pn ++ pins) xe (fun u s' caught => ?_) PassesOwn.looking).run [] s σ H D (I.toTry _) h) (fun f s1 end_ => ?_) fun _ _ z => z)
  · obtain ⟨a, B, sI, _, σ', H', cls, d, rfl, Jt, nb, up, sky, na, os, ag, w⟩ := caught
    have J : Inv X pins σ' H' sI := Jt.ofTry ok
    show wpAny _ X.A (noteFrame (.ref a) X.env) _ _ _
    refine Sky.land Zc.steady frames hfr (hst ▸ sky) fun h3 fl3 up3 => ?_
    have J3 : Inv X pins σ' H' { s' with heap := h3 } := J.landed nb fl3.1 (up.trans up3) os ag
    obtain ⟨o3, v3, at3, zc3, data3⟩ := fl3.there
    have nfr : a ∉ frs (X.env :: X.outer) := fun hm => by
      obtain ⟨_, o', e', hnf⟩ := fl3.2.2.1.mem hm
      cases at3.symm.trans e'
      exact hnf _ data3
    have nL : a ≠ X.env.locals := fun z => nfr (List.mem_filterMap.mpr ⟨X.env, List.mem_cons_self, hfr.trans (congrArg some z.symm)⟩)
    have nF : a ∉ X.fs := fun hm => let ⟨e, he, q⟩ := List.mem_filterMap.mp hm
      nfr (List.mem_filterMap.mpr ⟨e, List.mem_cons_of_mem _ he, q⟩)
    have S3 := J3.suite at3 data3 na nL nF
    have kind : PySem.W.Looks (model X.prog X.w) h3 (typeOf (.ref a)) cls := fun _ _ _ _ q z => wpAny_typeOf_ref (q _ _ at3) (by rw [zc3.1]; exact z)
    have go : ∀ {hs' : List ExceptHandler} {ks' : List Clause}, AreClauses X hs' ks' → wCls X.K Wout D ks' cls d σ' H' → wpAny (model X.prog X.w) X.A (handleBy (.ref a) X.env hs') (SP X pins D) X.xe { s' with heap := h3 } := by
      intro hs' ks' ac
      induction ac with
      | nil =>
        intro w
        refine wpAny_handleBy_nil ?_
        obtain ⟨_, _, _, oe, vs, T, oT, _, he, _, hd, h1, _⟩ := id fl3
        unfold PySem.passOn
        refine wpAny_bind (wpAny_field he hd h1 ?_)
        rw [if_neg (show ¬ ((Value.ref T == Value.none) = true) from by simp)]
        have onward : wpAny (model X.prog X.w) X.A (setFlight (.ref a) X.env.frame) (fun _ s4 => wpAny (model X.prog X.w) X.A (throw (.ref a) : Sem Flow) (SP X pins D) X.xe s4) X.xe { s' with heap := h3 } := by
          rw [hfr]
          exact HandSPX.setFlight_upZ fl3 fun h4 hh4 up4 => wpAny_throw (tk _ _ ⟨a, B, sI, pins, σ', H', cls, d, rfl, J, nb, (up.trans up3).trans up4, .inr (.inr (hst ▸ hh4)), na, os, ag, w⟩)
        first
          | exact wpAny_bind (wpAny_pure (wpAny_bind onward))
          | exact wpAny_bind onward
      | @cons h k hs2 ks2 isC _ ih =>
        rintro ⟨b, known, yes, no⟩
        obtain ⟨x, np, pos', b₀, suite, on, rfl, nam, suiteOk, nameOk⟩ := isC.ex
        refine wpAny_handleBy_cons (codeAny_handlers_test ?_) (by intro q; cases q)
        have seen := PySem.W.exm_one (M := model X.prog X.w) J3.kIn kind known
        have test : ∀ {Q E : Value → Shared → Prop}, Q k.cls { s' with heap := h3 } → wpAny (model X.prog X.w) (X.A.mark (some (.ref a))) (eval (.Name x np) X.env) Q E { s' with heap := h3 } := fun {Q E} q => by
          obtain ⟨g, dbg, m | ⟨m, v, n⟩⟩ := nam
          · exact ld_glob (X := X.suite a ((a, o3) :: (X.pn ++ pins))) S3 g m q dbg
          · exact ld_blt (X := X.suite a ((a, o3) :: (X.pn ++ pins))) S3 g m v q n dbg
        refine test (seen.here ?_)
        cases b with
        | false => exact ih (no rfl)
        | true =>
          have wish := yes rfl a na
          rcases nameOk with ⟨rfl, sl⟩ | ⟨n, i, rfl, sl, hi, loc⟩
          · unfold Clause.wish at wish
            rw [sl] at wish
            refine codeAny_handlers_suite (HandSPX.lands_againZ fl3 fun h4 fl4 up4 => ?_)
            have J4 : Inv X pins σ' H' { s' with heap := h4 } := J.landed nb fl4.1 ((up.trans up3).trans up4) os ag
            obtain ⟨o4, _, at4, zc4, data4⟩ := fl4.there
            refine wpAny_mono ((suiteOk a o4 cls d (X.pn ++ pins) zc4 ⟨_, data4⟩).run [] _ _ H' _ (J4.suite at4 data4 na nL nF) wish) (fun f s6 e6 => ?_) (fun _ _ z => False.elim z)
            cases f with
            | ret u => exact let ⟨v6, σ6, H6, S6, r6, q6⟩ := e6; ⟨v6, σ6, H6, S6.unsuite ok, r6, q6⟩
            | next => exact let ⟨σ6, H6, S6, q6⟩ := e6; ⟨σ6, H6, S6.unsuite ok, q6⟩
            | brk => exact let ⟨σ6, H6, S6, q6⟩ := e6; ⟨σ6, H6, S6.unsuite ok, q6⟩
            | cont => exact let ⟨σ6, H6, S6, q6⟩ := e6; ⟨σ6, H6, S6.unsuite ok, q6⟩
          · unfold Clause.wish at wish
            rw [sl] at wish
            refine codeAny_handlers_suite_as (HandSPX.lands_againZ fl3 fun h4 fl4 up4 => ?_)
            have J4 : Inv X pins σ' H' { s' with heap := h4 } := J.landed nb fl4.1 ((up.trans up3).trans up4) os ag
            obtain ⟨o4, _, at4, zc4, data4⟩ := fl4.there
            refine store_ok (X := X.suite a ((a, o4) :: (X.pn ++ pins))) (v := .ref a) (J4.suite at4 data4 na nL nF) hN hi (.inl loc) rfl (fun s5 S5 => ?_) (.inr loc)
            refine wpAny_mono ((suiteOk a o4 cls d (X.pn ++ pins) zc4 ⟨_, data4⟩).run [] s5 _ H' _ S5 wish) (fun f s6 e6 => ?_) (fun _ _ z => False.elim z)
            have gone : ∀ {σ6 : L2.St} {H6 : Hp} {Q : Shared → Prop}, Inv (X.suite a ((a, o4) :: (X.pn ++ pins))) [] σ6 H6 s6 → (∀ s7, Inv X pins (σ6.set i none) H6 s7 → Q s7) →
                wpAny (model X.prog X.w) X.A (do bindName X.env n .none; unbindBehindTheSuite X.env n pos') (fun _ s7 => Q s7) X.xe s6 := fun S6 q => gone_ok (S6.unsuite ok) hN hi loc q
            cases f with
            | ret u => exact let ⟨_, _, _, S6, r6, q6⟩ := e6; gone S6 fun s7 J7 => ⟨_, _, _, J7, r6, q6⟩
            | next => exact let ⟨_, _, S6, q6⟩ := e6; gone S6 fun s7 J7 => ⟨_, _, J7, q6⟩
            | brk => exact let ⟨_, _, S6, q6⟩ := e6; gone S6 fun s7 J7 => ⟨_, _, J7, q6⟩
            | cont => exact let ⟨_, _, S6, q6⟩ := e6; gone S6 fun s7 J7 => ⟨_, _, J7, q6⟩
    exact go hk w
  · cases f with
    | next => exact let ⟨σ', H', J', q⟩ := end_; wpAny_execs_nil ⟨σ', H', J'.ofTry ok, q⟩
    | brk => exact let ⟨σ', H', J', q⟩ := end_; ⟨σ', H', J'.ofTry ok, q⟩
    | cont => exact let ⟨σ', H', J', q⟩ := end_; ⟨σ', H', J'.ofTry ok, q⟩
    | ret u => exact let ⟨v, σ', H', J', r, q⟩ := end_; ⟨v, σ', H', J'.ofTry ok, r, q⟩
end
end My

set_option linter.all false
namespace My
open PySem PySem.Spec PyProof.Rows L2
section
variable {X : Cx} {CX : CXT} {k : Nat} {f C : Addr} {fd : FuncData} {ps : List Str} {sp : Sp} {E : L2.St → XK} {x : Str} {p pos : Pos} {e : Expr} {es : List Expr} {t : TA} {ds : List Value} {dvs : List V}
/-- an object is made, and what its __init__ lets out is told with the slots -/
def tMakeS (C : Addr) (sp : Sp) (dvs : List V) (E : L2.St → XK) (t : TA) : TE := fun σ H Q => t σ H fun vs H1 => ∀ x dx, H1 x = none → H1 dx = none → dx ≠ x →
  sp (.ref x :: (vs ++ dvs)) (upd (upd H1 dx (.own x)) x (.ins C dx [])) (fun v H2 => v = .non ∧ Q (.ref x) H2) (E σ)
theorem pe_makeS (M : Mk X.K C f) (F : FnOk X.prog X.w X.K X.mg X.base CX k f fd ps sp) (hr : Room (k + 1) X.A) (isGlob : Gl X x) (stands : X.mg x = some (.ref C)) (hb : Binds X.K fd ps ds) (hd : Vals dvs ds) (hx : ∀ σ, PassesAt CX X σ (E σ))
    (ha : PA X (e :: es) t) (notDebug : (x == ("__debug__" : Str)) = false := by decide) (first1 : starEach (e :: es) X.env = (false, eval e X.env) :: starEach es X.env := by rfl) (noStar : (backTo pos (starEach es X.env)).any (·.1) = false := by rfl) :
    PE X (.Call (.Name x p) (e :: es) [] pos) (tMakeS C sp dvs E t) := by
  refine ⟨fun pins s σ H Q I red => ?_⟩
  refine wpAny_Call_Name_kw (ld_glob I isGlob stands ?_ notDebug)
  refine PySem.W.callWith_K (h₀ := X.base) I.ok.mod.kin M.kp (thn (ha.run pos pins s σ H _ I red) fun us s1 ⟨vs, H1, J1, r, q⟩ => ⟨J1.kIn, ?_⟩) first1 noStar
  have hq := q (s1.heap.objs.size + 1) s1.heap.objs.size (J1.hok.fresh (Nat.le_succ _)) (J1.hok.fresh (Nat.le_refl _)) (Nat.ne_of_lt (Nat.lt_succ_self _))
  have J2 := Inv.made (C := C) J1
  have r2 : Vals (V.ref (s1.heap.objs.size + 1) :: (vs ++ dvs)) (Value.ref (s1.heap.objs.size + 1) :: (us ++ ds)) := .cons rfl (r.append hd)
  have hl : (Value.ref (s1.heap.objs.size + 1) :: us ++ ds).length = ps.length := by
    have e := r2.length
    rw [F.len _ _ _ _ hq] at e
    exact e.symm
  refine wpAny_call (make_map (f := f) J1.kIn M.makes M.init (beq_iff_eq.mp M.fn) (codeAny_mono (F.run _ X.stack _ _ ⟨Value.ref (s1.heap.objs.size + 1) :: us, []⟩ (Value.ref (s1.heap.objs.size + 1) :: (us ++ ds)) _ _ (E σ) (hr.make C us [])
    (J2.env0.make C us []) (hb _ (Value.ref (s1.heap.objs.size + 1) :: us) J2.kIn hl) r2 hq) fun r s' ends => ?_))
  cases r with
  | error e => exact hx σ pins _ _ e s' J2 ends
  | ok fl =>
    cases fl with
    | ret u =>
      obtain ⟨v, K3, J3, rv, ev, rest⟩ := J2.after ends
      subst ev
      exact ⟨rv, ⟨V.ref (s1.heap.objs.size + 1), K3, J3, rfl, rest⟩⟩
    | next => exact ends.elim
    | brk => exact ends.elim
    | cont => exact ends.elim
end
/-- isinstance of the caught error, which has a dict of its own -/
def rIsD (K : PySem.W.Frag) (cls : Value) (d : Option Addr) (a : Addr) : List V → Hp → VK → Prop := fun xs H Q => ∃ (D dd : Addr) (fs : List (Str × V)) (c : V) (cv : Value) (b : Bool), cls = .ref D ∧ d = some dd ∧ ExcC K D ∧ H dd = some (.xd fs) ∧
  xs = [.ref a, c] ∧ ClsV c cv ∧ PySem.W.kitOne K (.ref D) cv = some b ∧ Q (.bl b) H
def rIsDT (K : PySem.W.Frag) (cls : Value) (d : Option Addr) (a : Addr) : List V → Hp → VK → Prop := fun xs H Q => ∃ (D dd tp : Addr) (fs : List (Str × V)) (cs : List V) (us : List Value) (b : Bool), cls = .ref D ∧ d = some dd ∧ ExcC K D ∧ H dd = some (.xd fs) ∧
  xs = [.ref a, .ref tp] ∧ H tp = some (.tup cs) ∧ Paired ClsV cs us ∧ PySem.W.kitAny K (.ref D) us = some b ∧ Q (.bl b) H
theorem instD {X : Cx} {a D dd : Addr} {oe : Obj} {pn : List (Addr × Obj)} {pins : List (Addr × Obj)} {σ : L2.St} {H : Hp} {s : Shared} {fs : List (Str × V)} (I : Inv (X.suite a ((a, oe) :: pn)) pins σ H s) (hz : Zc (.ref D) (some dd) oe) (hf : ∃ vs, oe.data = .fields vs) (ed : H dd = some (.xd fs)) :
    ∃ od, PySem.W.InstAt s.heap a oe D (some od) := by
  obtain ⟨ha, _⟩ := I.pin (a, oe) (List.mem_append.mpr (.inl List.mem_cons_self))
  obtain ⟨vs, hd⟩ := hf
  have hx : ObjOk X.prog X.w H s.heap dd (.xd fs) := I.hok dd _ ed
  obtain ⟨mA, hns, hr⟩ := hx
  obtain ⟨od, ho, hl⟩ := lookIn_ns hns
  exact ⟨od, ha, hz.1, by unfold PySem.W.notCls; rw [hd] <;> rfl, by rw [hz.2]; exact ho⟩
theorem hasCls {K : PySem.W.Frag} {D : Addr} (h : PySem.W.hasDictIn K D = true) : (PySem.W.clsIn K D).isSome = true := by
  obtain ⟨cd, hc, _⟩ := PySem.W.any_some h
  rw [hc]
  rfl
theorem call_isD {X : Cx} {a : Addr} {oe : Obj} {cls : Value} {d : Option Addr} {pn : List (Addr × Obj)} (hz : Zc cls d oe) (hf : ∃ vs, oe.data = .fields vs) : CallR (X.suite a ((a, oe) :: pn)) (.builtin "isinstance") (rIsD X.K cls d a) := by
  intro pins s σ H vals us Q I r red
  obtain ⟨D, dd, fs, c, cv, b, rfl, rfl, C, ed, rfl, hcv, e, q⟩ := red
  obtain ⟨ua, ub, rfl, ra, rb⟩ := vals2 r
  have e2 := hcv.eq rb
  subst e2
  obtain rfl : ua = Value.ref a := ra
  obtain ⟨od, J⟩ := instD I hz hf ed
  exact PySem.W.kia_one (PySem.W.kitx_exc (hasCls C.hd) C.hg C.hk C.hs C.ha C.hn C.ht C.hm) I.kIn J e (fun z => nomatch z) fun tk => ⟨.bl b, H, I.kept (t' := tk) fun _ _ z => z, rfl, q⟩
theorem call_isDT {X : Cx} {a : Addr} {oe : Obj} {cls : Value} {d : Option Addr} {pn : List (Addr × Obj)} (hz : Zc cls d oe) (hf : ∃ vs, oe.data = .fields vs) : CallR (X.suite a ((a, oe) :: pn)) (.builtin "isinstance") (rIsDT X.K cls d a) := by
  intro pins s σ H vals us Q I r red
  obtain ⟨D, dd, tp, fs, cs, ws, b, rfl, rfl, C, ed, rfl, hT, k, e, q⟩ := red
  obtain ⟨ua, ub, rfl, ra, rb⟩ := vals2 r
  cases (show ub = Value.ref tp from rb)
  obtain rfl : ua = Value.ref a := ra
  obtain ⟨od, J⟩ := instD I hz hf ed
  obtain ⟨_, things, rv, o, h1, h2, n, h3⟩ := (show ObjOk X.prog X.w H s.heap tp (.tup cs) from I.hok tp _ hT)
  have e3 := ClsV.all k rv
  subst e3
  obtain ⟨oc, od', dt, sl⟩ := o
  simp only at h2 h3
  subst h2 h3
  exact PySem.W.kia_tup (PySem.W.kitx_exc (hasCls C.hd) C.hg C.hk C.hs C.ha C.hn C.ht C.hm) I.kIn J h1 e (fun z => nomatch z) fun tk => ⟨.bl b, H, I.kept (t' := tk) fun _ _ z => z, rfl, q⟩
end My

namespace My
open PySem PySem.Spec PyProof.Rows L2
local macro_rules | `(tactic| walk_at "side") => `(tactic| first | (dsimp only; omega) | exact ⟨by omega, by omega⟩ | exact Or.inl ⟨by omega, by omega⟩ | exact Or.inr ⟨by omega, by omega⟩ | decide)
local macro_rules | `(tactic| walk_at "sq") => `(tactic| first | assumption | exact SqL.of (by assumption) | exact SqT.of (by assumption) | (refine L2.Same.seq (by assumption) ?_; walk_at "sq") | (refine L2.Same.seqT (by assumption) ?_; walk_at "sq") | exact Or.inl (by walk_at "sq") | exact Or.inr (by walk_at "sq"))
local macro_rules | `(tactic| walk_at "1") => `(tactic| first
  | refine ⟨_, rfl, iteT ?_⟩
  | refine ⟨_, rfl, iteF ?_⟩
  | refine ⟨_, rfl, ?_⟩
  | refine ⟨_, _, rfl, rfl, (by walk_at "side"), ?_⟩
  | refine ⟨_, _, rfl, rfl, ?_⟩
  | refine ⟨_, _, _, _, true, rfl, .ty _, .base (.int _), kit_ty (a := "int") (by decide +kernel), ?_⟩
  | refine ⟨_, _, _, _, false, rfl, .ty _, .base (.int _), kit_ty (a := "int") (by decide +kernel), ?_⟩
  | refine ⟨_, _, rfl, (by walk_at "sq"), ?_⟩
  | refine ⟨_, _, _, _, rfl, rfl, (by walk_at "sq"), (by first | rfl | assumption), ?_⟩
  | refine Or.inl ⟨_, _, _, _, rfl, rfl, (by walk_at "sq"), (by first | rfl | assumption), ?_⟩
  | refine Or.inr (Or.inl ⟨_, _, _, _, rfl, rfl, (by walk_at "sq"), (by first | rfl | assumption), ?_⟩)
  | refine ⟨_, _, rfl, Or.inl ⟨(by walk_at "sq"), ?_⟩⟩
  | refine ⟨rfl, ?_⟩
  | refine iteT ?_
  | refine iteF ?_
  | refine ⟨_, _, _, _, _, rfl, (by assumption), (by assumption), (by assumption), (by assumption), ?_⟩
  | refine Or.inl ⟨_, rfl, ?_⟩
  | refine Or.inr ⟨_, rfl, ?_⟩
  | refine ⟨_, _, rfl, (by walk_at "side"), ?_⟩
  | refine ⟨_, _, rfl, ?_⟩)
local macro_rules | `(tactic| walk_at "fld") => `(tactic| skip)
local macro_rules | `(tactic| walk_at "s") => `(tactic| repeat walk_at "1")
local macro_rules | `(tactic| walk_at "size") => `(tactic| first | exact Nat.le_of_ble_eq_true rfl | (simp only [List.length_map, List.length_append, List.length_cons, List.length_nil]; omega))
local macro_rules | `(tactic| walk_at "new") => `(tactic| (first | refine ⟨(by walk_at "size"), fun p hp => ?_⟩ | refine fun p hp => ?_); (generalize hq : upd _ p _ = H1); (obtain ⟨s, e⟩ := new_facts hp hq); clear hq)
/-! Tally.__init__ -/
/-- lists and tuples stay -/
def KeepLT (H H' : Hp) : Prop := ∀ c xs, (H c = some (.lst xs) → H' c = some (.lst xs)) ∧ (H c = some (.tup xs) → H' c = some (.tup xs))
theorem Dv.keep {H H' : Hp} {v : V} {d : PyData} (s : KeepLT H H') (h : Dv H v d) : Dv H' v d :=
  Dv.rec (motive_1 := fun v d _ => Dv H' v d) (motive_2 := fun vs ds _ => DvAll H' vs ds) .non (fun b => .bl b) (fun i => .int i) (fun q => .str q) (fun q _ sm ih => .lst ((s _ _).1 q) ih sm) (fun q _ sm ih => .tup ((s _ _).2 q) ih sm) .nil (fun _ _ a b => .cons a b) h
theorem DvAll.keep {H H' : Hp} {xs : List V} {ds : List PyData} (s : KeepLT H H') (h : DvAll H xs ds) : DvAll H' xs ds := by
  induction xs generalizing ds with
  | nil =>
    cases h
    exact .nil
  | cons x xs ih =>
    cases h with
    | cons h t => exact .cons (h.keep s) (ih t)
def dn (x : Stp) : Sti := (x.1, x.2.getD 0)
theorem up_dn {x : Stp} (h : x.2 ≠ none) : up (dn x) = x := by
  obtain ⟨t, c⟩ := x
  cases c with
  | none => exact absurd rfl h
  | some c => rfl
theorem ups_dn {fs : List Stp} (h : ∀ x ∈ fs, x.2 ≠ none) : (fs.map dn).map up = fs := by
  rw [List.map_map]
  exact (List.map_congr_left fun x hx => up_dn (h x hx)).trans (List.map_id fs)
abbrev fsD (d : PyData) : List Stp := (itemsD d).map stO
abbrev asD (d : PyData) : List Sti := (fsD d).map dn
theorem rise_some : ∀ {x : Option Int × Option Int} {ds : List Stp}, riseF x ds = true → ∀ y, ds.getLast? = some y → y.2 ≠ none → ∀ z ∈ ds, z.2 ≠ none
  | x, [], _, y, h, _, z, hz => nomatch hz
  | x, d :: ds, hr, y, h, hy, z, hz => by
    have hr : (upC x.2 d.2 && (upT x.1 d.1 && riseF (prO d) ds)) = true := hr
    rw [Bool.and_eq_true, Bool.and_eq_true] at hr
    cases ds with
    | nil =>
      rw [List.mem_singleton] at hz
      have : d = y := Option.some.inj h
      rw [hz, this]
      exact hy
    | cons d2 ds =>
      have hl : (d2 :: ds).getLast? = some y := by
        rw [← h]
        exact (List.getLast?_cons_cons ..).symm
      rcases List.mem_cons.mp hz with rfl | hz
      · intro q
        have h3 := hr.2.2
        have h3 : (upC z.2 d2.2 && (upT (some z.1) d2.1 && riseF (prO d2) ds)) = true := h3
        rw [q] at h3
        exact nomatch (show false = true from h3)
      · exact rise_some hr.2.2 y hl hy z hz
structure GoodT (d0 d1 d2 d3 d4 : PyData) : Prop where
  u : (isNonD d0 || isNumD d0) = true
  sf : isSeqD d1 = true
  af : (itemsD d1).all isFD = true
  sa : isSeqD d2 = true
  aa : (itemsD d2).all isStepD = true
  e3 : isNumD d3 = true
  e4 : isNumD d4 = true
  hz : fsD d2 = [] → intD d3 = 0 ∧ intD d4 = 0
  hne : fsD d2 = [] ∨ ∀ x ∈ fsD d1, x.2 ≠ none
theorem goodT {d0 d1 d2 d3 d4 : PyData} (h : wordT d0 d1 d2 d3 d4 = none) : GoodT d0 d1 d2 d3 d4 := by
  unfold wordT at h
  split at h
  · rename_i hu
    split at h
    · rename_i hf
      split at h
      · rename_i hr
        obtain ⟨sf, af⟩ := Bool.and_eq_true_iff.mp hf
        unfold wordA at h
        split at h
        · rename_i ha
          obtain ⟨sa, aa⟩ := Bool.and_eq_true_iff.mp ha
          have hfs : ∀ l, l = ((fsD d1).getLast?.map prO).getD (none, cO d0) → l.2 ≠ none → ∀ x ∈ fsD d1, x.2 ≠ none := fun l hl h2 x hx => by
            cases hy : (fsD d1).getLast? with
            | none =>
              rw [List.getLast?_eq_none_iff] at hy
              rw [hy] at hx
              cases hx
            | some y =>
              rw [hy] at hl
              rw [hl] at h2
              exact rise_some hr y hy h2 x hx
          generalize hl : ((List.map stO (itemsD d1)).getLast?.map prO).getD (none, cO d0) = l at h
          have hfs := hfs l hl.symm
          unfold wordR at h
          split at h
          · rename_i hn
            split at h
            · cases h
            · rename_i h0
              have e0 : fsD d2 = [] := List.length_eq_zero_iff.mp (Nat.le_zero.mp (Nat.not_lt.mp h0))
              split at h
              · rename_i h3
                obtain ⟨n3, l3⟩ := Bool.and_eq_true_iff.mp h3
                split at h
                · rename_i h4
                  obtain ⟨n4, l4⟩ := Bool.and_eq_true_iff.mp h4
                  refine ⟨hu, sf, af, sa, aa, n3, n4, fun _ => ⟨?_, of_decide_eq_true l4⟩, Or.inl e0⟩
                  have := (num_eq n3).2
                  have := of_decide_eq_true l3
                  omega
                · cases h
              · cases h
          · rename_i c hn
            split at h
            · rename_i x y hx hy
              split at h
              · split at h
                · rename_i h3
                  split at h
                  · rename_i h4
                    refine ⟨hu, sf, af, sa, aa, (Bool.and_eq_true_iff.mp h3).1, (Bool.and_eq_true_iff.mp h4).1, fun q => ?_, Or.inr (hfs (by rw [hn]; exact fun q => nomatch q))⟩
                    have q : List.map stO (itemsD d2) = [] := q
                    rw [q] at hx
                    cases hx
                  · cases h
                · cases h
              · cases h
            · cases h
        · cases h
      · cases h
    · cases h
  · cases h
/-- the least form of a tally -/
def MadeT (fs : List Stp) (as : List Sti) (t m : Int) (f' : List Stp) (a' : List Sti) (t' m' : Int) : Prop :=
  ∃ p b, LeastP as t m p ∧ ShortS (fs ++ (as.take p).map up) p (t * p / as.length) (m * p / as.length) fs.length b ∧ f' = (fs ++ (as.take p).map up).take b ∧ a'.map up = ((fs ++ (as.take p).map up).drop b).take p ∧ t' = t * p / as.length ∧ m' = m * p / as.length
/-- the class of the error -/
structure ErrT (P : Program) (w : World) (K : PySem.W.Frag) (mg : Str → Option Value) (base : Heap) (D : Addr) (sp : Sp) : Prop where
  ex : ∃ fI fd, OexC K D ∧ PySem.W.findIn K (.ref D) "__init__" = some (some (.ref fI)) ∧ PySem.W.typeIn K (.ref fI) = some (.type "function") ∧ FnOk P w K mg base CX0 1 fI fd ["self", "word"] sp ∧ Binds K fd ["self", "word"] [] ∧ mg "InvalidTally" = some (.ref D)
theorem upd_facts' {H H1 : Hp} {p : Addr} {o : HO} (hq : upd H p o = H1) : H1 p = some o ∧ ∀ b, b ≠ p → H1 b = H b := by
  subst hq
  exact ⟨upd_same, fun b h => upd_ne h⟩
section
variable {P : Program} {w : World} {K : PySem.W.Frag} {mg : Str → Option Value} {base : Heap} {C D : Addr}
abbrev s_IY_init : Stmt := inClass (topS 4) 0
theorem sc_IY_init : FnScope ["self", "word"] ["self", "word"] (defScope s_IY_init) := ⟨rfl, rfl, rfl, by decide +kernel, rfl, by decide +kernel, by decide +kernel⟩
def spErr (D : Addr) : Sp := fun vs H Q _ => ∃ (a : Addr) (y : V), vs = [.ref a, y] ∧ H a = some (exo a D none) ∧ ∀ dx, H dx = none → dx ≠ a → Q .non (upd (upd H dx (exd dx [("word", y)])) a (exo a D (some dx)))
theorem ok_err {f1 : Addr} {fd : FuncData} (F : Fun K "__init__" "InvalidTally.__init__" s_IY_init f1 fd) (O : OexC K D) (nw : PySem.W.findIn K (.ref D) "word" = some none) : FnOk P w K mg base CX0 1 f1 fd ["self", "word"] (spErr D) := by
  refine F.ok sc_IY_init (fun vs H Q E h => ?_) (fun cdv A outer s H vs Q E hr h => ?_)
  · obtain ⟨_, _, rfl, _⟩ := h
    rfl
  · obtain ⟨a, y, rfl, e, k⟩ := h
    refine ⟨_, pss_one (ps_ost (pv 0) (pv 1)), ?_⟩
    exact ⟨_, rfl, _, rfl, a, D, rfl, O, nw, Or.inl ⟨e, fun dx n ne => k dx n ne⟩⟩
/-- a tally is made, or the wrong argument told -/
def spInitT (C D : Addr) : Sp := fun vs H Q E => ∃ (H0 : Hp) (p dx : Addr) (v0 v1 v2 v3 v4 : V) (d0 d1 d2 d3 d4 : PyData), vs = [.ref p, v0, v1, v2, v3, v4] ∧ H0 p = none ∧ Same H0 H ∧ H p = some (.ins C dx []) ∧
  Dv H0 v0 d0 ∧ Dv H0 v1 d1 ∧ Dv H0 v2 d2 ∧ Dv H0 v3 d3 ∧ Dv H0 v4 d4 ∧
  (∀ w, wordT d0 d1 d2 d3 d4 = some w → ∀ H' d, Same H0 H' → H' d = some (.xd [("word", .str w)]) → E (.ref D) (some d) H') ∧
  (wordT d0 d1 d2 d3 d4 = none → (itemsD d1).length ≤ 1000 ∧ (itemsD d2).length ≤ 1000 ∧ ∀ H' f' a' t' m', Same H0 H' → MadeT (fsD d1) (asD d2) (intD d3) (intD d4) f' a' t' m' → TalAt C H' p (cO d0) f' a' t' m' → Q .non H')
abbrev s_Tally_init : Stmt := inClass (topS 18) 0
theorem sc_Tally_init : FnScope ["self", "under", "first", "again", "turn", "more", "word", "form"] ["self", "under", "first", "again", "turn", "more"] (defScope s_Tally_init) := ⟨rfl, rfl, rfl, by decide +kernel, rfl, by decide +kernel, by decide +kernel⟩
set_option maxHeartbeats 8000000 in
theorem ok_init {f1 : Addr} {fd : FuncData} (F : Fun K "__init__" "Tally.__init__" s_Tally_init f1 fd) (R : TalCls K C) (X : ErrT P w K mg base D (spErr D))
    (o_wrong_argument : Own P w K mg base "_wrong_argument" 4 ["under", "first", "again", "turn", "more"] spWrongT) (o_least_form : Own P w K mg base "least_form" 3 ["first", "again", "turn", "more"] (spLeastF K)) :
    FnOk P w K mg base (L2.CX P w) 5 f1 fd ["self", "under", "first", "again", "turn", "more"] (spInitT C D) := by
  obtain ⟨fI, fdI, OX, iC, tI, FI, bI, mI⟩ := X.ex
  refine F.okX sc_Tally_init (fun vs H Q E h => ?_) (fun cdv A outer s H vs Q E hr h => ?_)
  · obtain ⟨_, _, _, _, _, _, _, _, _, _, _, _, _, rfl, _⟩ := h
    rfl
  · obtain ⟨H0, p, dx, v0, v1, v2, v3, v4, d0, d1, d2, d3, d4, rfl, hp0, s0, hp, h0, h1, h2, h3, h4, kE, kQ⟩ := h
    refine ⟨_, (pss_cons (ps_set (i := 6) sc_Tally_init.nd rfl (Or.inl rfl) (pe_own o_wrong_argument (hr.mono (by decide)) (pa_cons (pv 1) (pa_cons (pv 2) (pa_cons (pv 3) (pa_cons (pv 4) (pa_cons (pv 5) pa_nil)))))))
  (pss_cons (ps_if (pt_cmpR op_notN (pv 6) pe_non (nomark _))
    (pss_one (ps_raise rfl (takes_of rfl rfl rfl rfl) (pmk_oex OX iC tI FI (hr.mono (by decide)) bI .nil pass0 rfl mI (pa_cons (pv 6) pa_nil))))
    pss_nil)
  (pss_cons (ps_fld (pv 0) (pv 1) rfl)
  (pss_cons (ps_set (i := 7) sc_Tally_init.nd rfl (Or.inl rfl) (pe_own o_least_form (hr.mono (by decide)) (pa_cons (pv 2) (pa_cons (pv 3) (pa_cons (pv 4) (pa_cons (pv 5) pa_nil))))))
  (pss_cons (ps_fld (pv 0) (pe_ix ix_tup (pv 7) pe_int (fun _ _ => rfl)) rfl)
  (pss_cons (ps_fld (pv 0) (pe_ix ix_tup (pv 7) pe_int (fun _ _ => rfl)) rfl)
  (pss_cons (ps_fld (pv 0) (pe_ix ix_tup (pv 7) pe_int (fun _ _ => rfl)) rfl)
  (pss_one (ps_fld (pv 0) (pe_ix ix_tup (pv 7) pe_int (fun _ _ => rfl)) rfl))))))))), ?_⟩
    refine ⟨_, rfl, _, rfl, _, rfl, _, rfl, _, rfl, v0, v1, v2, v3, v4, d0, d1, d2, d3, d4, rfl, h0.same s0, h1.same s0, h2.same s0, h3.same s0, h4.same s0, fun H1 s1 => ?_⟩
    have s01 := s0.trans s1
    cases hw : wordT d0 d1 d2 d3 d4 with
    | some w' =>
      refine ⟨_, rfl, rfl, _, rfl, ?_⟩
      refine iteT ?_
      refine ⟨_, rfl, Nat.le_of_ble_eq_true rfl, fun q nq => ?_⟩
      refine ⟨q, .str w', rfl, upd_same, fun d nd ned => ?_⟩
      have nd1 : H1 d = none := by
        rw [upd_ne ned] at nd
        exact nd
      refine ⟨rfl, d, [("word", .str w')], upd_same, ?_, nd1, ?_⟩
      · rw [upd_ne ned, upd_same]
      · refine kE w' hw _ d (fun b o e => ?_) upd_same
        have e1 := s01 _ _ e
        have nb : b ≠ d := ne_of_none e1 nd1
        have nq' : b ≠ q := ne_of_none e1 nq
        rw [upd_ne nb, del_ne nq', upd_ne nq', upd_ne nb, upd_ne nq']
        exact e1
    | none =>
      obtain ⟨l1, l2, kQ⟩ := kQ hw
      have G := goodT hw
      refine ⟨_, rfl, rfl, _, rfl, ?_⟩
      refine iteF ?_
      have hp1 : H1 p = some (.ins C dx []) := s1 _ _ hp
      refine ⟨_, rfl, _, rfl, p, C, dx, _, rfl, hp1, R.cl, R.nU, (by show 0 < 1000; decide), ?_⟩
      generalize hq : upd H1 p _ = H2
      obtain ⟨e2, o2⟩ := upd_facts' hq
      clear hq
      have sg2 : Same H0 H2 := fun c o e => by
        rw [o2 _ (ne_of_none e hp0)]
        exact s01 _ _ e
      clear o2 s01 s1 s0 hp1 hp
      have hds1 : itemsD d1 = (fsD d1).map stD := map_eqs (fun d => first_eq) G.af
      have hds2 : itemsD d2 = (fsD d2).map stD := map_eqs (fun d h => (step_eq h).1) G.aa
      have hup : (asD d2).map up = fsD d2 := ups_dn fun y hy => by
        obtain ⟨d, hd, rfl⟩ := List.mem_map.mp hy
        obtain ⟨c, ec, _⟩ := (step_eq (List.all_eq_true.mp G.aa d hd)).2
        rw [ec]
        exact fun q => nomatch q
      have lfs : (fsD d1).length = (itemsD d1).length := List.length_map ..
      have las : (asD d2).length = (itemsD d2).length := by rw [List.length_map, List.length_map]
      have hv0 : v0 = cV (cO d0) := dv_c (by
        have ed : d0 = cD (cO d0) := by
          have := G.u
          cases d0 <;> first | rfl | cases this
        rw [← ed]
        exact h0)
      obtain ⟨A1, xs1, rfl, hS1, hX1, _, _⟩ := (h1.same sg2).seq (K := K) G.sf
      obtain ⟨A2, xs2, rfl, hS2, hX2, _, _⟩ := (h2.same sg2).seq (K := K) G.sa
      have ev3 : v3 = .int (intD d3) := by
        obtain ⟨e, _⟩ := num_eq G.e3
        rw [e] at h3
        cases h3
        rfl
      have ev4 : v4 = .int (intD d4) := by
        obtain ⟨e, _⟩ := num_eq G.e4
        rw [e] at h4
        cases h4
        rfl
      subst ev3 ev4
      rw [hds1] at hX1
      rw [hds2, ← hup, List.map_map] at hX2
      have hne : asD d2 = [] ∨ ∀ x ∈ fsD d1, x.2 ≠ none := G.hne.imp (fun q => by rw [show asD d2 = (fsD d2).map dn from rfl, q]; rfl) id
      have hz : asD d2 = [] → intD d3 = 0 ∧ intD d4 = 0 := fun q => G.hz (by rw [← hup, q]; rfl)
      refine ⟨_, rfl, _, rfl, _, rfl, _, rfl, A1, A2, xs1, xs2, fsD d1, asD d2, intD d3, intD d4, rfl, hS1, hX1, hS2, hX2, by omega, by omega, hne, hz, fun H3 r pp b s3 nr hP hS hd => ?_⟩
      have e3 := s3 _ _ e2
      have sg3 := sg2.trans s3
      generalize fsD d1 = fs at *
      generalize asD d2 = as at *
      cases hd with
      | @tup _ ys _ er hx _ =>
        obtain ⟨y1, ys, rfl, i1, hx⟩ := hx.inv
        obtain ⟨y2, ys, rfl, i2, hx⟩ := hx.inv
        obtain ⟨y3, ys, rfl, i3, hx⟩ := hx.inv
        obtain ⟨y4, ys, rfl, i4, hx⟩ := hx.inv
        obtain rfl := hx.inv0
        cases i3
        cases i4
        cases i1 with
        | @tup pf xf _ epf hxf _ =>
          cases i2 with
          | @tup pa xa _ epa hxa _ =>
            have npr : r ≠ p := ne_of_none e2 nr |>.symm
            have npf : pf ≠ p := fun q => by rw [q, e3] at epf; cases epf
            have npa : pa ≠ p := fun q => by rw [q, e3] at epa; cases epa
            refine ⟨_, rfl, _, _, _, _, rfl, rfl, SqT.of er, rfl, _, rfl, p, C, dx, _, rfl, e3, R.cl, R.nF, (by show 1 < 1000; decide), ?_⟩
            generalize hq : upd H3 p _ = H4
            obtain ⟨e4, o4⟩ := upd_facts' hq
            clear hq
            refine ⟨_, rfl, _, _, _, _, rfl, rfl, SqT.of ((o4 _ npr).trans er), rfl, _, rfl, p, C, dx, _, rfl, e4, R.cl, R.nA, (by show 2 < 1000; decide), ?_⟩
            generalize hq : upd H4 p _ = H5
            obtain ⟨e5, o5⟩ := upd_facts' hq
            clear hq
            refine ⟨_, rfl, _, _, _, _, rfl, rfl, SqT.of ((o5 _ npr).trans ((o4 _ npr).trans er)), rfl, _, rfl, p, C, dx, _, rfl, e5, R.cl, R.nT, (by show 3 < 1000; decide), ?_⟩
            generalize hq : upd H5 p _ = H6
            obtain ⟨e6, o6⟩ := upd_facts' hq
            clear hq
            refine ⟨_, rfl, _, _, _, _, rfl, rfl, SqT.of ((o6 _ npr).trans ((o5 _ npr).trans ((o4 _ npr).trans er))), rfl, _, rfl, p, C, dx, _, rfl, e6, R.cl, R.nM, (by show 4 < 1000; decide), ?_⟩
            generalize hq : upd H6 p _ = H7
            obtain ⟨e7, o7⟩ := upd_facts' hq
            clear hq
            have o37 : ∀ c, c ≠ p → H7 c = H3 c := fun c n => by rw [o7 _ n, o6 _ n, o5 _ n, o4 _ n]
            have s07 : Same H0 H7 := fun c o e => by
              rw [o37 _ (ne_of_none e hp0)]
              exact sg3 _ _ e
            have kp : KeepLT H3 H7 := fun c xs => ⟨fun e => by rw [o37 _ (fun q => by rw [q, e3] at e; cases e)]; exact e, fun e => by rw [o37 _ (fun q => by rw [q, e3] at e; cases e)]; exact e⟩
            obtain ⟨ws, hws⟩ : ∃ ws, ws = fs ++ (as.take pp).map up := ⟨_, rfl⟩
            rw [← hws] at hxf hxa hS
            have hal : ∀ y ∈ (ws.drop b).take pp, y.2 ≠ none := fun y hy => by
              have hy2 := List.mem_of_mem_take hy
              have hy3 := List.mem_of_mem_drop hy2
              rw [hws] at hy3
              rcases List.mem_append.mp hy3 with q | q
              · rcases hne with h0 | h0
                · have : pp = 0 := by
                    have := hP.le
                    rw [h0] at this
                    exact Nat.le_zero.mp this
                  rw [this, List.take_zero] at hy
                  cases hy
                · exact h0 y q
              · obtain ⟨z, _, rfl⟩ := List.mem_map.mp q
                exact fun q => nomatch q
            have hdn := ups_dn hal
            refine kQ H7 (ws.take b) (((ws.drop b).take pp).map dn) _ _ s07 ⟨pp, b, hP, by rw [← hws]; exact hS, by rw [hws], by rw [hdn, hws], rfl, rfl⟩ ⟨dx, pf, pa, xf, xa, by rw [e7, hv0]; rfl, (o37 _ npf).trans epf, hxf.keep kp, (o37 _ npa).trans epa, ?_⟩
            have h := hxa.keep kp
            rw [← hdn, List.map_map] at h
            exact h
end
end My

namespace My
open PySem PySem.Spec PyProof.Rows L2
local macro_rules | `(tactic| walk_at "side") => `(tactic| first | (dsimp only; omega) | exact ⟨by omega, by omega⟩ | exact Or.inl ⟨by omega, by omega⟩ | exact Or.inr ⟨by omega, by omega⟩ | decide)
local macro_rules | `(tactic| walk_at "sq") => `(tactic| first | assumption | exact SqL.of (by assumption) | exact SqT.of (by assumption) | (refine L2.Same.seq (by assumption) ?_; walk_at "sq") | (refine L2.Same.seqT (by assumption) ?_; walk_at "sq") | exact Or.inl (by walk_at "sq") | exact Or.inr (by walk_at "sq"))
local macro_rules | `(tactic| walk_at "1") => `(tactic| first
  | refine ⟨_, rfl, iteT ?_⟩
  | refine ⟨_, rfl, iteF ?_⟩
  | refine ⟨_, rfl, ?_⟩
  | refine ⟨_, _, rfl, rfl, (by walk_at "side"), ?_⟩
  | refine ⟨_, _, rfl, rfl, ?_⟩
  | refine ⟨_, _, _, _, true, rfl, .ty _, .base (.int _), kit_ty (a := "int") (by decide +kernel), ?_⟩
  | refine ⟨_, _, _, _, false, rfl, .ty _, .base (.int _), kit_ty (a := "int") (by decide +kernel), ?_⟩
  | refine ⟨_, _, rfl, (by walk_at "sq"), ?_⟩
  | refine ⟨_, _, _, _, rfl, rfl, (by walk_at "sq"), (by first | rfl | assumption), ?_⟩
  | refine Or.inl ⟨_, _, _, _, rfl, rfl, (by walk_at "sq"), (by first | rfl | assumption), ?_⟩
  | refine Or.inr (Or.inl ⟨_, _, _, _, rfl, rfl, (by walk_at "sq"), (by first | rfl | assumption), ?_⟩)
  | refine ⟨_, _, rfl, Or.inl ⟨(by walk_at "sq"), ?_⟩⟩
  | refine ⟨rfl, ?_⟩
  | refine iteT ?_
  | refine iteF ?_
  | refine ⟨_, _, _, _, _, rfl, (by assumption), (by assumption), (by assumption), (by assumption), ?_⟩
  | refine Or.inl ⟨_, rfl, ?_⟩
  | refine Or.inr ⟨_, rfl, ?_⟩
  | refine ⟨_, _, rfl, (by walk_at "side"), ?_⟩
  | refine ⟨_, _, rfl, ?_⟩)
local macro_rules | `(tactic| walk_at "fld") => `(tactic| skip)
local macro_rules | `(tactic| walk_at "s") => `(tactic| repeat walk_at "1")
local macro_rules | `(tactic| walk_at "size") => `(tactic| first | exact Nat.le_of_ble_eq_true rfl | (simp only [List.length_map, List.length_append, List.length_cons, List.length_nil]; omega))
local macro_rules | `(tactic| walk_at "new") => `(tactic| (first | refine ⟨(by walk_at "size"), fun p hp => ?_⟩ | refine fun p hp => ?_); (generalize hq : upd _ p _ = H1); (obtain ⟨s, e⟩ := new_facts hp hq); clear hq)
/-! the rate, by, == -/
theorem eqv_c (x y : Option Int) : PyData.eqv (cD x) (cD y) = decide (x = y) := by
  cases x <;> cases y
  · rfl
  · rfl
  · rfl
  · rename_i i j
    show (i == j) = decide (some i = some j)
    by_cases e : i = j
    · subst e; simp
    · rw [beq_eq_false_iff_ne.mpr e]
      exact (decide_eq_false fun q => e (Option.some.inj q)).symm
theorem canLay_c (c : Option Int) : (cD c).canLay0 = true := by cases c <;> rfl
theorem depth_c (c : Option Int) : (cD c).depth = 0 := by cases c <;> rfl
theorem canLay_sts : ∀ xs : List Stp, PyData.canLayAll0 (xs.map stD) = true
  | [] => rfl
  | x :: r => by
    show ((true && ((cD x.2).canLay0 && true)) && PyData.canLayAll0 (r.map stD)) = true
    rw [canLay_sts r, canLay_c]
    rfl
theorem depth_sts : ∀ xs : List Stp, PyData.depthAll (xs.map stD) ≤ 1
  | [] => Nat.zero_le _
  | x :: r => by
    have h := depth_sts r
    have e : PyData.depthAll ((x :: r).map stD) = max (max 0 (max (cD x.2).depth 0) + 1) (PyData.depthAll (r.map stD)) := rfl
    rw [e, depth_c]
    omega
theorem shaped_stt (xs : List Stp) : SeqAt.shaped (.tuple (xs.map stD)) = true := by
  have h := depth_sts xs
  show (PyData.canLayAll0 (xs.map stD) && decide (PyData.depthAll (xs.map stD) + 1 ≤ 64)) = true
  rw [canLay_sts, decide_eq_true (by omega)]
  rfl
theorem eqv_st (x y : Stp) : PyData.eqv (stD x) (stD y) = decide (x = y) := by
  obtain ⟨a, b⟩ := x
  obtain ⟨c, d⟩ := y
  show (a == c && (PyData.eqv (cD b) (cD d) && true)) = decide ((a, b) = (c, d))
  rw [eqv_c]
  by_cases h1 : a = c
  · by_cases h2 : b = d
    · subst h1 h2
      simp
    · rw [decide_eq_false h2, decide_eq_false (fun q => h2 (Prod.mk.inj q).2)]
      simp
  · rw [beq_eq_false_iff_ne.mpr h1, decide_eq_false (fun q => h1 (Prod.mk.inj q).1)]
    rfl
theorem eqvAll_st : ∀ xs ys : List Stp, PyData.eqvAll (xs.map stD) (ys.map stD) = decide (xs = ys)
  | [], [] => rfl
  | [], _ :: _ => rfl
  | _ :: _, [] => rfl
  | x :: xs, y :: ys => by
    show (PyData.eqv (stD x) (stD y) && PyData.eqvAll (xs.map stD) (ys.map stD)) = decide (x :: xs = y :: ys)
    rw [eqv_st, eqvAll_st xs ys]
    by_cases e : x = y
    · subst e
      simp
    · rw [decide_eq_false e]
      exact (decide_eq_false fun q => e (List.cons.inj q).1).symm
theorem rd_neT {K : PySem.W.Frag} {H : Hp} {Q : VK} {p q : Addr} {xf yf : List V} (xs ys : List Stp) (h1 : H p = some (.tup xf)) (g1 : DvAll H xf (xs.map stD)) (h2 : H q = some (.tup yf)) (g2 : DvAll H yf (ys.map stD)) (l1 : xs.length ≤ 2000) (l2 : ys.length ≤ 2000)
    (k : Q (.bl (!decide (xs = ys))) H) : rNeD K (.ref p) (.ref q) H Q := by
  have d1 : Dv H (.ref p) (.tuple (xs.map stD)) := .tup h1 g1 (by rw [List.length_map]; exact l1)
  have d2 : Dv H (.ref q) (.tuple (ys.map stD)) := .tup h2 g2 (by rw [List.length_map]; exact l2)
  refine ⟨_, _, d1.dp, d2.dp, shaped_stt xs, shaped_stt ys, ?_⟩
  rw [show PyData.eqv (.tuple (xs.map stD)) (.tuple (ys.map stD)) = PyData.eqvAll (xs.map stD) (ys.map stD) from rfl, eqvAll_st]
  exact k
def lowN (i j : Int) : Int := i / (Nat.gcd i.natAbs j.natAbs : Nat)
def lowD (i j : Int) : Int := j / (Nat.gcd i.natAbs j.natAbs : Nat)
/-- what isinstance and == ask of the class -/
structure TalEq (K : PySem.W.Frag) (mg : Str → Option Value) (C : Addr) : Prop where
  g : mg "Tally" = some (.ref C)
  ins : ∀ (H : Hp) (a dx : Addr) (fs : List (Str × V)), H a = some (.ins C dx fs) → TyX K H (.ref a) (.ref C)
  self : PySem.W.kitOne K (.ref C) (.ref C) = some true
  tup : PySem.W.kitOne K (.type "tuple") (.ref C) = some false
  nself : PySem.W.notFirst K C (.ref C) = true
  ntup : PySem.W.notFirst K C (.type "tuple") = true
  ne : PySem.W.findIn K (.ref C) "__ne__" = some (some (.builtin "object.__ne__"))
  mro : PySem.W.mroIn K C (.type "object") = some true
def spLow : Sp := fun vs H Q _ => ∃ i j : Int, vs = [.int i, .int j] ∧ 0 < j ∧ j < 1073741824 ∧ ∀ H' p, Same H H' → H p = none → H' p = some (.tup [.int (lowN i j), .int (lowD i j)]) → Q (.ref p) H'
/-- the rate of a tally -/
def spRate (C : Addr) : Sp := fun vs H Q _ => ∃ (p : Addr) (u : Option Int) (f : List Stp) (a : List Sti) (t m : Int), vs = [.ref p] ∧ TalAt C H p u f a t m ∧ PartsT f a t m ∧
  (a = [] → Q .non H) ∧ (a ≠ [] → ∀ H' q, Same H H' → H q = none → H' q = some (.tup [.int (lowN m t), .int (lowD m t)]) → Q (.ref q) H')
def spEqT (K : PySem.W.Frag) (C : Addr) : Sp := fun vs H Q _ => ∃ (p : Addr) (u : Option Int) (f : List Stp) (a : List Sti) (t m : Int) (y : V), vs = [.ref p, y] ∧ TalAt C H p u f a t m ∧ f.length ≤ 2000 ∧ a.length ≤ 2000 ∧
  ((∃ t, TyX K H y t ∧ PySem.W.kitOne K t (.ref C) = some false ∧ Q (.bl false) H) ∨
   (∃ (q : Addr) (u2 : Option Int) (f2 : List Stp) (a2 : List Sti) (t2 m2 : Int), y = .ref q ∧ TalAt C H q u2 f2 a2 t2 m2 ∧ f2.length ≤ 2000 ∧ a2.length ≤ 2000 ∧ Q (.bl (decide (u = u2 ∧ f = f2 ∧ a = a2 ∧ t = t2 ∧ m = m2))) H))
theorem ups_inj {a b : List Sti} : a.map up = b.map up ↔ a = b := by
  refine ⟨fun h => ?_, fun h => by rw [h]⟩
  have := congrArg (List.map dn) h
  rw [List.map_map, List.map_map] at this
  have id_ : (dn ∘ up) = id := funext fun x => rfl
  rw [id_, List.map_id, List.map_id] at this
  exact this
section
variable {P : Program} {w : World} {K : PySem.W.Frag} {mg : Str → Option Value} {base : Heap} {C : Addr}
abbrev s_in_lowest_terms : Stmt := topS 10
theorem sc_in_lowest_terms : FnScope ["top", "bottom", "shared"] ["top", "bottom"] (defScope s_in_lowest_terms) := ⟨rfl, rfl, rfl, by decide +kernel, rfl, by decide +kernel, by decide +kernel⟩
theorem ok_low (D : Df K mg "in_lowest_terms" s_in_lowest_terms ["top", "bottom"]) (g : mg "gcd" = some (.builtin "math.gcd")) : Own P w K mg base "in_lowest_terms" 1 ["top", "bottom"] spLow := by
  refine D.own sc_in_lowest_terms (fun vs H Q E h => ?_) (fun fa cdv A outer s H vs Q E hr h => ?_)
  · obtain ⟨_, _, rfl, _⟩ := h
    rfl
  · obtain ⟨i, j, rfl, j0, j1, k⟩ := h
    refine ⟨_, (pss_cons (ps_set (i := 2) sc_in_lowest_terms.nd rfl (Or.inl rfl) (pe_callBfun cr_gcd (by rfl) g (pa_cons (pv 0) (pa_cons (pv 1) pa_nil))))
  (pss_one (ps_ret (pe_tup (pa_cons (pe_op op_fdiv (pv 0) (pv 2)) (pa_cons (pe_op op_fdiv (pv 1) (pv 2)) pa_nil)))))), ?_⟩
    have g0 : 0 < Nat.gcd i.natAbs j.natAbs := Nat.gcd_pos_of_pos_right _ (by omega)
    have g1 : Nat.gcd i.natAbs j.natAbs ≤ j.natAbs := Nat.gcd_le_right _ (by omega)
    walk_at "s"
    walk_at "new"
    rename_i p1 n1 H1 s1 e1
    walk_at "s"
    exact k _ _ s1 n1 e1
abbrev s_Tally_rate : Stmt := inClass (topS 18) 1
theorem sc_Tally_rate : FnScope ["self"] ["self"] (defScope s_Tally_rate) := ⟨rfl, rfl, rfl, by decide +kernel, rfl, by decide +kernel, by decide +kernel⟩
theorem ok_rate {f1 : Addr} {fd : FuncData} (F : Fun K "rate" "Tally.rate" s_Tally_rate f1 fd) (R : TalCls K C) (T : Txt mg) (o_in_lowest_terms : Own P w K mg base "in_lowest_terms" 1 ["top", "bottom"] spLow) : FnOk P w K mg base CX0 2 f1 fd ["self"] (spRate C) := by
  refine F.ok sc_Tally_rate (fun vs H Q E h => ?_) (fun cdv A outer s H vs Q E hr h => ?_)
  · obtain ⟨_, _, _, _, _, _, rfl, _⟩ := h
    rfl
  · obtain ⟨p, u, f, a, t, m, rfl, ⟨dx, pf, pa, xf, xa, h1, h2, h3, h4, h5⟩, ok, kn, ks⟩ := h
    refine ⟨_, (pss_one (ps_ret (pe_ifExp (pt_cmpR op_gt (pe_callB call_len_seq (by rfl) T.len PySem.boot_len (pa_cons (pe_fld (pv 0) rfl) pa_nil)) pe_int (nomark _)) (pe_own o_in_lowest_terms (hr.mono (by decide)) (pa_cons (pe_fld (pv 0) rfl) (pa_cons (pe_fld (pv 0) rfl) pa_nil))) pe_non))), ?_⟩
    have la := h5.len
    rw [List.length_map] at la
    have lta : (talF u pf pa t m).lookup ("again" : Str) = some (.ref pa) := rfl
    have ltt : (talF u pf pa t m).lookup ("turn" : Str) = some (.int t) := rfl
    have ltm : (talF u pf pa t m).lookup ("more" : Str) = some (.int m) := rfl
    refine ⟨_, rfl, p, C, dx, _, _, rfl, h1, R.cl, R.nA, lta, pa, xa, rfl, Or.inr (SqT.of h4), _, _, rfl, rfl, _, rfl, ?_⟩
    rw [la]
    by_cases ha : a = []
    · rw [decide_eq_false (by rw [ha]; decide)]
      refine iteF ?_
      exact kn ha
    · have := List.length_pos_iff.mpr ha
      rw [decide_eq_true (by omega)]
      refine iteT ?_
      have t0 := ok.t0 ha
      have t1 := ok.t1
      exact ⟨_, rfl, p, C, dx, _, _, rfl, h1, R.cl, R.nM, ltm, _, rfl, p, C, dx, _, _, rfl, h1, R.cl, R.nT, ltt, m, t, rfl, t0, by omega, ks ha⟩
abbrev s_Tally_by : Stmt := inClass (topS 18) 2
theorem sc_Tally_by : FnScope ["self", "time"] ["self", "time"] (defScope s_Tally_by) := ⟨rfl, rfl, rfl, by decide +kernel, rfl, by decide +kernel, by decide +kernel⟩
theorem ok_by {f1 : Addr} {fd : FuncData} (F : Fun K "by" "Tally.by" s_Tally_by f1 fd) (o_told_by : Own P w K mg base "told_by" 2 ["steps", "time"] (spTold C)) : FnOk P w K mg base CX0 3 f1 fd ["self", "time"] (spTold C) := by
  refine F.ok sc_Tally_by (fun vs H Q E h => ?_) (fun cdv A outer s H vs Q E hr h => ?_)
  · obtain ⟨_, _, _, _, _, _, _, rfl, _⟩ := h
    rfl
  · obtain ⟨p, u, f, a, t, m, time, rfl, h1, ok, k⟩ := h
    exact ⟨_, (pss_one (ps_ret (pe_own o_told_by (hr.mono (by decide)) (pa_cons (pv 0) (pa_cons (pv 1) pa_nil))))), _, rfl, _, rfl, p, u, f, a, t, m, time, rfl, h1, ok, k⟩
abbrev s_Tally_eq : Stmt := inClass (topS 18) 3
theorem sc_Tally_eq : FnScope ["self", "other"] ["self", "other"] (defScope s_Tally_eq) := ⟨rfl, rfl, rfl, by decide +kernel, rfl, by decide +kernel, by decide +kernel⟩
set_option maxHeartbeats 4000000 in
theorem ok_eq {f1 : Addr} {fd : FuncData} (F : Fun K "__eq__" "Tally.__eq__" s_Tally_eq f1 fd) (R : TalCls K C) (T : Txt mg) (Z : TalEq K mg C) : FnOk P w K mg base CX0 1 f1 fd ["self", "other"] (spEqT K C) := by
  refine F.ok sc_Tally_eq (fun vs H Q E h => ?_) (fun cdv A outer s H vs Q E hr h => ?_)
  · obtain ⟨_, _, _, _, _, _, _, rfl, _⟩ := h
    rfl
  · obtain ⟨p, u, f, a, t, m, y, rfl, ⟨dx, pf, pa, xf, xa, h1, h2, h3, h4, h5⟩, lf, la, k⟩ := h
    refine ⟨_, (pss_cons (ps_if (pt_not (pt_val (pe_callB call_isi (by rfl) T.isinstance (by decide +kernel) (pa_cons (pv 1) (pa_cons (pe_glob (v := .ref C) (by rfl) Z.g rfl) pa_nil)))))
    (pss_one (ps_ret pe_bl))
    pss_nil)
  (pss_cons (ps_if (PW.pt (pw_or (pt_cmpR op_ne (pe_fld (pv 0) rfl) (pe_fld (pv 1) rfl) (nomark _)) (pw_or (pt_cmpR (op_neD hr.units) (pe_fld (pv 0) rfl) (pe_fld (pv 1) rfl) (nomark _)) (pw_or1 (pt_cmpR (op_neD hr.units) (pe_fld (pv 0) rfl) (pe_fld (pv 1) rfl) (nomark _))))))
    (pss_one (ps_ret pe_bl))
    pss_nil)
  (pss_one (ps_ret (pe_and (pe_cmpR op_eq (pe_fld (pv 0) rfl) (pe_fld (pv 1) rfl) (nomark _)) (pe_one (pe_cmpR op_eq (pe_fld (pv 0) rfl) (pe_fld (pv 1) rfl) (nomark _)))))))), ?_⟩
    have ltu : (talF u pf pa t m).lookup ("under" : Str) = some (cV u) := rfl
    have ltf : (talF u pf pa t m).lookup ("first" : Str) = some (.ref pf) := rfl
    have lta : (talF u pf pa t m).lookup ("again" : Str) = some (.ref pa) := rfl
    have ltt : (talF u pf pa t m).lookup ("turn" : Str) = some (.int t) := rfl
    have ltm : (talF u pf pa t m).lookup ("more" : Str) = some (.int m) := rfl
    refine ⟨_, rfl, ?_⟩
    rcases k with ⟨ty, hty, kt, k⟩ | ⟨q, u2, f2, a2, t2, m2, rfl, ⟨dx2, pf2, pa2, xf2, xa2, g1, g2, g3, g4, g5⟩, lf2, la2, k⟩
    · refine ⟨_, _, _, _, false, rfl, .own _, hty, kt, ?_⟩
      walk_at "s"
      exact k
    · refine ⟨_, _, _, _, true, rfl, .own _, Z.ins _ _ _ _ g1, Z.self, ?_⟩
      have gtu : (talF u2 pf2 pa2 t2 m2).lookup ("under" : Str) = some (cV u2) := rfl
      have gtf : (talF u2 pf2 pa2 t2 m2).lookup ("first" : Str) = some (.ref pf2) := rfl
      have gta : (talF u2 pf2 pa2 t2 m2).lookup ("again" : Str) = some (.ref pa2) := rfl
      have gtt : (talF u2 pf2 pa2 t2 m2).lookup ("turn" : Str) = some (.int t2) := rfl
      have gtm : (talF u2 pf2 pa2 t2 m2).lookup ("more" : Str) = some (.int m2) := rfl
      have eqU : decide (cV u = cV u2) = decide (u = u2) := by
        cases u <;> cases u2
        · rfl
        · rfl
        · rfl
        · rename_i i j
          by_cases e : i = j
          · subst e
            simp
          · show decide (V.int i = V.int j) = _
            rw [decide_eq_false (fun z => e (V.int.inj z)), decide_eq_false (fun z => e (Option.some.inj z))]
      refine ⟨_, rfl, ?_⟩
      refine iteF ?_
      have no : ¬ (u = u2 ∧ f = f2 ∧ a = a2 ∧ t = t2 ∧ m = m2) → Q (.bl false) H := fun h => by
        rw [decide_eq_false h] at k
        exact k
      refine ⟨_, rfl, p, C, dx, _, _, rfl, h1, R.cl, R.nU, ltu, _, rfl, q, C, dx2, _, _, rfl, g1, R.cl, R.nU, gtu, (by cases u <;> cases u2 <;> rfl), _, rfl, ?_⟩
      rw [eqU]
      by_cases e1 : u = u2
      · rw [decide_eq_true e1]
        refine iteF ?_
        refine ⟨_, rfl, p, C, dx, _, _, rfl, h1, R.cl, R.nF, ltf, _, rfl, q, C, dx2, _, _, rfl, g1, R.cl, R.nF, gtf, ?_⟩
        refine rd_neT f f2 h2 h3 g2 g3 lf lf2 ⟨_, rfl, ?_⟩
        by_cases e2 : f = f2
        · rw [decide_eq_true e2]
          refine iteF ?_
          refine ⟨_, rfl, p, C, dx, _, _, rfl, h1, R.cl, R.nA, lta, _, rfl, q, C, dx2, _, _, rfl, g1, R.cl, R.nA, gta, ?_⟩
          refine rd_neT (a.map up) (a2.map up) h4 (by rw [List.map_map]; exact h5) g4 (by rw [List.map_map]; exact g5) (by rw [List.length_map]; exact la) (by rw [List.length_map]; exact la2) ⟨_, rfl, ?_⟩
          by_cases e3 : a = a2
          · rw [decide_eq_true (ups_inj.mpr e3)]
            refine iteF ?_
            refine ⟨_, rfl, p, C, dx, _, _, rfl, h1, R.cl, R.nT, ltt, _, rfl, q, C, dx2, _, _, rfl, g1, R.cl, R.nT, gtt, rfl, _, rfl, ?_⟩
            by_cases e4 : t = t2
            · rw [decide_eq_true (by rw [e4])]
              refine iteT ?_
              refine ⟨_, rfl, p, C, dx, _, _, rfl, h1, R.cl, R.nM, ltm, _, rfl, q, C, dx2, _, _, rfl, g1, R.cl, R.nM, gtm, rfl, ?_⟩
              by_cases e5 : m = m2
              · rw [decide_eq_true (by rw [e5])]
                rw [decide_eq_true ⟨e1, e2, e3, e4, e5⟩] at k
                exact k
              · rw [decide_eq_false (fun z => e5 (V.int.inj z))]
                exact no fun z => e5 z.2.2.2.2
            · rw [decide_eq_false (fun z => e4 (V.int.inj z))]
              refine iteF ?_
              exact no fun z => e4 z.2.2.2.1
          · rw [decide_eq_false (fun z => e3 (ups_inj.mp z))]
            refine iteT ?_
            exact no fun z => e3 z.2.2.1
        · rw [decide_eq_false e2]
          refine iteT ?_
          exact no fun z => e2 z.2.1
      · rw [decide_eq_false e1]
        refine iteT ?_
        exact no fun z => e1 z.1
end
end My

namespace My
open PySem PySem.Spec PyProof.Rows L2
local macro_rules | `(tactic| walk_at "side") => `(tactic| first | (dsimp only; omega) | exact ⟨by omega, by omega⟩ | exact Or.inl ⟨by omega, by omega⟩ | exact Or.inr ⟨by omega, by omega⟩ | decide)
local macro_rules | `(tactic| walk_at "sq") => `(tactic| first | assumption | exact SqL.of (by assumption) | exact SqT.of (by assumption) | (refine L2.Same.seq (by assumption) ?_; walk_at "sq") | (refine L2.Same.seqT (by assumption) ?_; walk_at "sq") | exact Or.inl (by walk_at "sq") | exact Or.inr (by walk_at "sq"))
local macro_rules | `(tactic| walk_at "1") => `(tactic| first
  | refine ⟨_, rfl, iteT ?_⟩
  | refine ⟨_, rfl, iteF ?_⟩
  | refine ⟨_, rfl, ?_⟩
  | refine ⟨_, _, rfl, rfl, (by walk_at "side"), ?_⟩
  | refine ⟨_, _, rfl, rfl, ?_⟩
  | refine ⟨_, _, _, _, true, rfl, .ty _, .base (.int _), kit_ty (a := "int") (by decide +kernel), ?_⟩
  | refine ⟨_, _, _, _, false, rfl, .ty _, .base (.int _), kit_ty (a := "int") (by decide +kernel), ?_⟩
  | refine ⟨_, _, rfl, (by walk_at "sq"), ?_⟩
  | refine ⟨_, _, _, _, rfl, rfl, (by walk_at "sq"), (by first | rfl | assumption), ?_⟩
  | refine Or.inl ⟨_, _, _, _, rfl, rfl, (by walk_at "sq"), (by first | rfl | assumption), ?_⟩
  | refine Or.inr (Or.inl ⟨_, _, _, _, rfl, rfl, (by walk_at "sq"), (by first | rfl | assumption), ?_⟩)
  | refine ⟨_, _, rfl, Or.inl ⟨(by walk_at "sq"), ?_⟩⟩
  | refine ⟨rfl, ?_⟩
  | refine iteT ?_
  | refine iteF ?_
  | refine ⟨_, _, _, _, _, rfl, (by assumption), (by assumption), (by assumption), (by assumption), ?_⟩
  | refine Or.inl ⟨_, rfl, ?_⟩
  | refine Or.inr ⟨_, rfl, ?_⟩
  | refine ⟨_, _, rfl, (by walk_at "side"), ?_⟩
  | refine ⟨_, _, rfl, ?_⟩)
local macro_rules | `(tactic| walk_at "fld") => `(tactic| skip)
local macro_rules | `(tactic| walk_at "s") => `(tactic| repeat walk_at "1")
local macro_rules | `(tactic| walk_at "size") => `(tactic| first | exact Nat.le_of_ble_eq_true rfl | (simp only [List.length_map, List.length_append, List.length_cons, List.length_nil]; omega))
local macro_rules | `(tactic| walk_at "new") => `(tactic| (first | refine ⟨(by walk_at "size"), fun p hp => ?_⟩ | refine fun p hp => ?_); (generalize hq : upd _ p _ = H1); (obtain ⟨s, e⟩ := new_facts hp hq); clear hq)
/-! drawn tallies -/
/-- steps behind one another, each at most three on -/
def ChainS : Sti → List Sti → Prop
  | _, [] => True
  | x, y :: r => (x.1 < y.1 ∧ y.1 ≤ x.1 + 3 ∧ x.2 < y.2 ∧ y.2 ≤ x.2 + 3) ∧ ChainS y r
def lastS (x : Sti) (ss : List Sti) : Sti := ss.getLast?.getD x
theorem chain_snoc : ∀ {x : Sti} {ss : List Sti} {y : Sti}, ChainS x ss → ((lastS x ss).1 < y.1 ∧ y.1 ≤ (lastS x ss).1 + 3 ∧ (lastS x ss).2 < y.2 ∧ y.2 ≤ (lastS x ss).2 + 3) → ChainS x (ss ++ [y])
  | x, [], y, _, h => ⟨h, trivial⟩
  | x, z :: r, y, hc, h => by
    have e : lastS x (z :: r) = lastS z r := by
      unfold lastS
      rw [List.getLast?_cons]
      rfl
    rw [e] at h
    exact ⟨hc.1, chain_snoc hc.2 h⟩
theorem last_snoc (x y : Sti) (ss : List Sti) : lastS x (ss ++ [y]) = y := by
  unfold lastS
  rw [List.getLast?_concat]
  rfl
def spSteps : Sp := fun vs H Q _ => ∃ (b : Addr) (t c : Int) (n : Nat), vs = [.ref b, .int t, .int c, .int n] ∧ BoxAt H b ∧ n ≤ 10 ∧
  ∀ H' L ss, ChainS (t, c) ss → ss.length = n → Bx b H H' → BoxAt H' b → H L = none → Dv (off b H') (.ref L) (.list (ss.map siD)) → Q (.ref L) H'
section
variable {P : Program} {w : World} {K : PySem.W.Frag} {mg : Str → Option Value} {base : Heap}
abbrev s_law_steps : Stmt := topS 27
theorem sc_law_steps : FnScope ["box", "time", "count", "many", "found", "turn"] ["box", "time", "count", "many"] (defScope s_law_steps) := ⟨rfl, rfl, rfl, by decide +kernel, rfl, by decide +kernel, by decide +kernel⟩
set_option maxHeartbeats 4000000 in
theorem ok_steps (D : Df K mg "_law_steps" s_law_steps ["box", "time", "count", "many"]) (T : Txt mg) (o_law_take : Own P w K mg base "_law_take" 1 ["box", "many"] spTake) : Own P w K mg base "_law_steps" 2 ["box", "time", "count", "many"] spSteps := by
  refine D.own sc_law_steps (fun vs H Q E h => ?_) (fun fa cdv A outer s H vs Q E hr h => ?_)
  · obtain ⟨_, _, _, _, rfl, _⟩ := h
    rfl
  · obtain ⟨b, t, c, n, rfl, hb, hn, k⟩ := h
    refine ⟨_, (pss_cons (ps_set (i := 4) sc_law_steps.nd rfl (Or.inl rfl) (pe_lst pa_nil))
  (pss_cons (ps_for PassesOwn.never rfl (pi_range1 (by rfl) T.range (pa_cons (pv 3) pa_nil)) (pg_name (i := 5) sc_law_steps.nd rfl (Or.inl rfl))
    (pss_cons (ps_par (i := 1) (j := 2) (by rfl) sc_law_steps.nd rfl rfl (by decide) rfl rfl (pa_cons (pe_op op_add (pe_op op_add (pv 1) pe_int) (pe_own o_law_take (hr.mono (by decide)) (pa_cons (pv 0) (pa_cons pe_int pa_nil)))) (pa_cons (pe_op op_add (pe_op op_add (pv 2) pe_int) (pe_own o_law_take (hr.mono (by decide)) (pa_cons (pv 0) (pa_cons pe_int pa_nil)))) pa_nil)) (by rfl))
      (pss_one (ps_expr (pe_bm PySem.F.plainAttrs_list PySem.F.slot_list_append PySem.F.type_list_append mt_append (pv 4) (pa_cons (pe_tup (pa_cons (pv 1) (pa_cons (pv 2) pa_nil))) pa_nil))))))
  (pss_one (ps_ret (pv 4))))), ?_⟩
    refine ⟨Nat.zero_le _, fun L nL => ?_⟩
    generalize hq : upd H L _ = H1
    obtain ⟨s1, e1⟩ := new_facts nL hq
    clear hq
    have Lb : L ≠ b := hb.ne nL
    refine ⟨_, rfl, _, rfl, by omega, by omega, ?_⟩
    refine for_range (lo := 0) (n := n) (fun i σ' H' => ∃ (ss : List Sti) (acc : List V) (y : Option V), σ' = [some (.ref b), some (.int (lastS (t, c) ss).1), some (.int (lastS (t, c) ss).2), some (.int (n : Nat)), some (.ref L), y] ∧ Bx b H H' ∧ BoxAt H' b ∧ H' L = some (.lst acc) ∧ DvAll (off L (off b H')) acc (ss.map siD) ∧ ChainS (t, c) ss ∧ ss.length = i)
      ⟨[], [], none, rfl, Bx.of s1, hb.same s1, e1, .nil, trivial, rfl⟩ ?_ ?_
    · rintro i σ' H' hi ⟨ss, acc, y, rfl, bx, box, eL, hA, hc, hl⟩
      generalize hls : lastS (t, c) ss = ls at *
      obtain ⟨lt, lc⟩ := ls
      refine ⟨_, rfl, _, _, rfl, rfl, _, rfl, b, 3, rfl, by decide, by decide, box, fun H2 d1 hd1 bx2 box2 => ⟨_, _, rfl, rfl, _, rfl, _, _, rfl, rfl, _, rfl, b, 3, rfl, by decide, by decide, box2, fun H3 d2 hd2 bx3 box3 => ⟨_, _, rfl, rfl, _, _, rfl, ?_⟩⟩⟩
      have eL3 := bx3 _ _ Lb (bx2 _ _ Lb eL)
      refine ⟨_, rfl, Or.inl ⟨rfl, _, SqL.of eL3⟩, _, rfl, _, rfl, Nat.le_of_ble_eq_true rfl, fun p np => ?_⟩
      have pL : p ≠ L := fun z => by rw [z, eL3] at np; cases np
      have pb : p ≠ b := box3.ne np
      have hal : acc.length = i := by rw [hA.len, List.length_map, hl]
      refine ⟨L, acc, _, rfl, rfl, by rw [upd_ne pL.symm]; exact eL3, small2000 (by omega), ss ++ [(lt + 1 + (d1 : Int), lc + 1 + (d2 : Int))], acc ++ [.ref p], some (.int (0 + (i : Int))), ?_, ?_, ?_, upd_same, ?_, ?_, ?_⟩
      · rw [last_snoc]
        rfl
      · intro a o n e
        have aL : a ≠ L := ne_of_none e nL
        have e3 := bx3 _ _ n (bx2 _ _ n (bx _ _ n e))
        have ap : a ≠ p := ne_of_none e3 np
        rw [upd_ne aL, upd_ne ap]
        exact e3
      · obtain ⟨x1, x2, x3, x0, eb⟩ := box3
        exact ⟨x1, x2, x3, x0, by rw [upd_ne Lb.symm, upd_ne pb.symm]; exact eb⟩
      · have sg : Same (off L (off b H')) (off L (off b H3)) := off_off (off_bx (bx2.trans bx3))
        have hA3 := hA.same sg
        rw [off_upd_ne Lb, off_upd_ne pb, off_upd, off_upd_ne pL, List.map_append]
        have s2 : Same (off L (off b H3)) (upd (off L (off b H3)) p (.tup [.int (lt + 1 + (d1 : Int)), .int (lc + 1 + (d2 : Int))])) := same_upd (off_none (off_none np))
        exact (hA3.same s2).app (.cons (si_dv (x := (lt + 1 + (d1 : Int), lc + 1 + (d2 : Int))) upd_same) .nil)
      · refine chain_snoc hc ?_
        rw [hls]
        exact ⟨by show lt < lt + 1 + (d1 : Int); omega, by show lt + 1 + (d1 : Int) ≤ lt + 3; omega, by show lc < lc + 1 + (d2 : Int); omega, by show lc + 1 + (d2 : Int) ≤ lc + 3; omega⟩
      · rw [List.length_append, List.length_singleton, hl]
    · rintro σ' H' ⟨ss, acc, y, rfl, bx, box, eL, hA, hc, hl⟩
      refine ⟨_, rfl, k H' L ss hc hl bx box nL (.lst (by rw [off_ne Lb]; exact eL) (hA.same off_same) (by rw [List.length_map]; omega))⟩
end
end My

namespace My
open PySem PySem.Spec PyProof.Rows L2
local macro_rules | `(tactic| walk_at "side") => `(tactic| first | (dsimp only; omega) | exact ⟨by omega, by omega⟩ | exact Or.inl ⟨by omega, by omega⟩ | exact Or.inr ⟨by omega, by omega⟩ | decide)
local macro_rules | `(tactic| walk_at "sq") => `(tactic| first | assumption | exact SqL.of (by assumption) | exact SqT.of (by assumption) | (refine L2.Same.seq (by assumption) ?_; walk_at "sq") | (refine L2.Same.seqT (by assumption) ?_; walk_at "sq") | exact Or.inl (by walk_at "sq") | exact Or.inr (by walk_at "sq"))
local macro_rules | `(tactic| walk_at "1") => `(tactic| first
  | refine ⟨_, rfl, iteT ?_⟩
  | refine ⟨_, rfl, iteF ?_⟩
  | refine ⟨_, rfl, ?_⟩
  | refine ⟨_, _, rfl, rfl, (by walk_at "side"), ?_⟩
  | refine ⟨_, _, rfl, rfl, ?_⟩
  | refine ⟨_, _, _, _, true, rfl, .ty _, .base (.int _), kit_ty (a := "int") (by decide +kernel), ?_⟩
  | refine ⟨_, _, _, _, false, rfl, .ty _, .base (.int _), kit_ty (a := "int") (by decide +kernel), ?_⟩
  | refine ⟨_, _, rfl, (by walk_at "sq"), ?_⟩
  | refine ⟨_, _, _, _, rfl, rfl, (by walk_at "sq"), (by first | rfl | assumption), ?_⟩
  | refine Or.inl ⟨_, _, _, _, rfl, rfl, (by walk_at "sq"), (by first | rfl | assumption), ?_⟩
  | refine Or.inr (Or.inl ⟨_, _, _, _, rfl, rfl, (by walk_at "sq"), (by first | rfl | assumption), ?_⟩)
  | refine ⟨_, _, rfl, Or.inl ⟨(by walk_at "sq"), ?_⟩⟩
  | refine ⟨rfl, ?_⟩
  | refine iteT ?_
  | refine iteF ?_
  | refine ⟨_, _, _, _, _, rfl, (by assumption), (by assumption), (by assumption), (by assumption), ?_⟩
  | refine Or.inl ⟨_, rfl, ?_⟩
  | refine Or.inr ⟨_, rfl, ?_⟩
  | refine ⟨_, _, rfl, (by walk_at "side"), ?_⟩
  | refine ⟨_, _, rfl, ?_⟩)
local macro_rules | `(tactic| walk_at "fld") => `(tactic| skip)
local macro_rules | `(tactic| walk_at "s") => `(tactic| repeat walk_at "1")
local macro_rules | `(tactic| walk_at "size") => `(tactic| first | exact Nat.le_of_ble_eq_true rfl | (simp only [List.length_map, List.length_append, List.length_cons, List.length_nil]; omega))
local macro_rules | `(tactic| walk_at "new") => `(tactic| (first | refine ⟨(by walk_at "size"), fun p hp => ?_⟩ | refine fun p hp => ?_); (generalize hq : upd _ p _ = H1); (obtain ⟨s, e⟩ := new_facts hp hq); clear hq)
/-! a drawn tally -/
inductive DrawnR : Option Int → List Stp → List Sti → Int → Int → Prop
  | none : DrawnR none [] [] 0 0
  | ends (u t0 d : Int) (ss : List Sti) (hu : 0 ≤ u ∧ u ≤ 3) (ht : -4 ≤ t0 ∧ t0 ≤ 3) (hc : ChainS (t0, u) ss) (hl : ss.length ≤ 3) (hd : 1 ≤ d ∧ d ≤ 3) : DrawnR (some u) (ss.map up ++ [((lastS (t0, u) ss).1 + d, none)]) [] 0 0
  | turns (u t0 dt dm : Int) (ss as : List Sti) (x y : Sti) (hu : 0 ≤ u ∧ u ≤ 3) (ht : -4 ≤ t0 ∧ t0 ≤ 3) (hc : ChainS (t0, u) ss) (hl : ss.length ≤ 3) (ha : ChainS (lastS (t0, u) ss) as) (hla : as.length ≤ 3) (hx : as.head? = some x) (hy : as.getLast? = some y)
      (hdt : 1 ≤ dt ∧ dt ≤ 3) (hdm : 1 ≤ dm ∧ dm ≤ 3) : DrawnR (some u) (ss.map up) as (y.1 - x.1 + dt) (y.2 - x.2 + dm)
def rawD (u : Option Int) (f : List Stp) (a : List Sti) (t m : Int) : PyData := .tuple [cD u, .list (f.map stD), .list (a.map siD), .int t, .int m]
/-- a drawn tally's lists are its own -/
def NewLs (H H' : Hp) (v : V) : Prop := ∃ r u pf pa t m, v = .ref r ∧ H' r = some (.tup [u, .ref pf, .ref pa, t, m]) ∧ H pf = none ∧ H pa = none
theorem bx_free {b c : Addr} {H H' : Hp} (s : Bx b H H') (n : H' c = none) (ne : c ≠ b) : H c = none := by
  cases e : H c with
  | none => rfl
  | some o => rw [s _ _ ne e] at n; cases n
def spRaw : Sp := fun vs H Q _ => ∃ b : Addr, vs = [.ref b] ∧ BoxAt H b ∧ ∀ H' v u f a t m, DrawnR u f a t m → Bx b H H' → BoxAt H' b → NewLs H H' v → Dv (off b H') v (rawD u f a t m) → Q v H'
theorem Dv.lstE {H : Hp} {v : V} {ds : List PyData} (h : Dv H v (.list ds)) : ∃ a xs, v = .ref a ∧ H a = some (.lst xs) ∧ DvAll H xs ds ∧ ds.length ≤ 2000 := by
  cases h with
  | lst e h sm => exact ⟨_, _, rfl, e, h, sm⟩
section
variable {P : Program} {w : World} {K : PySem.W.Frag} {mg : Str → Option Value} {base : Heap}
abbrev s_law_raw : Stmt := topS 28
theorem sc_law_raw : FnScope ["box", "under", "time", "first", "count", "form", "again", "turn"] ["box"] (defScope s_law_raw) := ⟨rfl, rfl, rfl, by decide +kernel, rfl, by decide +kernel, by decide +kernel⟩
set_option maxHeartbeats 8000000 in
theorem ok_raw (D : Df K mg "_law_raw" s_law_raw ["box"]) (o_law_take : Own P w K mg base "_law_take" 1 ["box", "many"] spTake) (o_law_steps : Own P w K mg base "_law_steps" 2 ["box", "time", "count", "many"] spSteps) : Own P w K mg base "_law_raw" 3 ["box"] spRaw := by
  refine D.own sc_law_raw (fun vs H Q E h => ?_) (fun fa cdv A outer s H vs Q E hr h => ?_)
  · obtain ⟨_, rfl, _⟩ := h
    rfl
  · obtain ⟨b, rfl, hb, k⟩ := h
    refine ⟨_, (pss_cons (ps_par (i := 1) (j := 2) (by rfl) sc_law_raw.nd rfl rfl (by decide) rfl rfl (pa_cons (pe_own o_law_take (hr.mono (by decide)) (pa_cons (pv 0) (pa_cons pe_int pa_nil))) (pa_cons (pe_op op_sub (pe_own o_law_take (hr.mono (by decide)) (pa_cons (pv 0) (pa_cons pe_int pa_nil))) pe_int) pa_nil)) (by rfl))
  (pss_cons (ps_set (i := 3) sc_law_raw.nd rfl (Or.inl rfl) (pe_own o_law_steps (hr.mono (by decide)) (pa_cons (pv 0) (pa_cons (pv 2) (pa_cons (pv 1) (pa_cons (pe_own o_law_take (hr.mono (by decide)) (pa_cons (pv 0) (pa_cons pe_int pa_nil))) pa_nil))))))
  (C8.pss_cut (ps_asg (pe_ifExp (pt_cmpR (op_neD hr.units) (pv 3) (pe_lst pa_nil) (nomark _)) (pe_ix ix_list (pv 3) (pe_un un_neg pe_int) (fun _ _ => rfl)) (pe_tup (pa_cons (pv 2) (pa_cons (pv 1) pa_nil)))) (pg_tup (by rfl) (pgs_cons (pg_name (i := 2) sc_law_raw.nd rfl (Or.inl rfl)) (pgs_cons (pg_name (i := 4) sc_law_raw.nd rfl (Or.inl rfl)) pgs_nil))))
  (pss_cons (ps_set (i := 5) sc_law_raw.nd rfl (Or.inl rfl) (pe_own o_law_take (hr.mono (by decide)) (pa_cons (pv 0) (pa_cons pe_int pa_nil))))
  (pss_cons (ps_if (pt_cmpR op_eq (pv 5) pe_int (nomark _))
    (pss_one (ps_ret (pe_tup (pa_cons pe_non (pa_cons (pe_lst pa_nil) (pa_cons (pe_lst pa_nil) (pa_cons pe_int (pa_cons pe_int pa_nil))))))))
    pss_nil)
  (pss_cons (ps_if (pt_cmpR op_lt (pv 5) pe_int (nomark _))
    (pss_one (ps_ret (pe_tup (pa_cons (pv 1) (pa_cons (pe_op op_cat (pv 3) (pe_lst (pa_cons (pe_tup (pa_cons (pe_op op_add (pe_op op_add (pv 2) pe_int) (pe_own o_law_take (hr.mono (by decide)) (pa_cons (pv 0) (pa_cons pe_int pa_nil)))) (pa_cons pe_non pa_nil))) pa_nil))) (pa_cons (pe_lst pa_nil) (pa_cons pe_int (pa_cons pe_int pa_nil))))))))
    pss_nil)
  (pss_cons (ps_set (i := 6) sc_law_raw.nd rfl (Or.inl rfl) (pe_own o_law_steps (hr.mono (by decide)) (pa_cons (pv 0) (pa_cons (pv 2) (pa_cons (pv 4) (pa_cons (pe_op op_add pe_int (pe_own o_law_take (hr.mono (by decide)) (pa_cons (pv 0) (pa_cons pe_int pa_nil)))) pa_nil))))))
  (pss_cons (ps_set (i := 7) sc_law_raw.nd rfl (Or.inl rfl) (pe_op op_add (pe_op op_add (pe_op op_sub (pe_ix ix_tup (pe_ix ix_list (pv 6) (pe_un un_neg pe_int) (fun _ _ => rfl)) pe_int (fun _ _ => rfl)) (pe_ix ix_tup (pe_ix ix_list (pv 6) pe_int (fun _ _ => rfl)) pe_int (fun _ _ => rfl))) pe_int) (pe_own o_law_take (hr.mono (by decide)) (pa_cons (pv 0) (pa_cons pe_int pa_nil)))))
  (pss_one (ps_ret (pe_tup (pa_cons (pv 1) (pa_cons (pv 3) (pa_cons (pv 6) (pa_cons (pv 7) (pa_cons (pe_op op_add (pe_op op_add (pe_op op_sub (pe_ix ix_tup (pe_ix ix_list (pv 6) (pe_un un_neg pe_int) (fun _ _ => rfl)) pe_int (fun _ _ => rfl)) (pe_ix ix_tup (pe_ix ix_list (pv 6) pe_int (fun _ _ => rfl)) pe_int (fun _ _ => rfl))) pe_int) (pe_own o_law_take (hr.mono (by decide)) (pa_cons (pv 0) (pa_cons pe_int pa_nil)))) pa_nil)))))))))))))))), ?_⟩
    refine ⟨_, rfl, b, 4, rfl, by decide, by decide, hb, fun H1 u hu bx1 b1 => ⟨_, rfl, b, 8, rfl, by decide, by decide, b1, fun H2 t ht bx2 b2 => ⟨_, _, rfl, rfl, _, _, rfl, ?_⟩⟩⟩
    refine ⟨_, rfl, _, rfl, _, rfl, _, rfl, b, 4, rfl, by decide, by decide, b2, fun H3 n hn bx3 b3 => ?_⟩
    refine ⟨b, (t : Int) - 4, u, n, rfl, b3, by omega, fun H4 L ss hc hl bx4 b4 nL0 hd => ?_⟩
    have bx14 := bx1.trans (bx2.trans (bx3.trans bx4))
    obtain ⟨L', xs, eq, eL, hX, _⟩ := hd.lstE
    cases eq
    have Lb := (off_of eL).1
    have eL := (off_of eL).2
    have hXl := hX.len
    rw [List.length_map] at hXl
    obtain ⟨l, hl'⟩ : ∃ l, l = lastS ((t : Int) - 4, (u : Int)) ss := ⟨_, rfl⟩
    refine ⟨fun σ' H' => σ' = [some (.ref b), some (.int (u : Nat)), some (.int l.1), some (.ref L), some (.int l.2), none, none, none] ∧ Bx b H4 H' ∧ BoxAt H' b, ?_, ?_⟩
    · refine ⟨_, rfl, Nat.zero_le _, fun p np => ?_⟩
      have s5 := same_upd (o := .lst []) np
      have d1 : Dv (upd H4 p (.lst [])) (.ref L) (.list (ss.map siD)) := hd.same (off_same.trans s5)
      have d2 : Dv (upd H4 p (.lst [])) (.ref p) (.list (([] : List Sti).map siD)) := .lst upd_same .nil (by decide)
      refine ⟨_, _, d1.dp, d2.dp, shaped_si _, shaped_si _, ?_⟩
      rw [eqv_sil]
      refine ⟨_, rfl, ?_⟩
      rcases List.eq_nil_or_concat ss with he | ⟨ss', y, he⟩
      · rw [decide_eq_true he]
        refine iteF ?_
        refine ⟨_, rfl, _, rfl, Nat.le_of_ble_eq_true rfl, fun q nq => ?_⟩
        refine ⟨q, _, rfl, SqT.of upd_same, rfl, _, _, rfl, _, _, rfl, rfl, ?_, (Bx.of s5).trans (Bx.of (same_upd nq)), (b4.same s5).same (same_upd nq)⟩
        rw [hl', he]
        rfl
      · rw [List.concat_eq_append] at he
        rw [decide_eq_false (by rw [he]; simp)]
        refine iteT ?_
        have hXs := hX
        rw [he, List.map_append] at hXs
        obtain ⟨x, ex, dx⟩ := DvAll.last hXs
        obtain ⟨q, rfl, eq⟩ := dv_si dx
        refine ⟨_, rfl, _, rfl, _, _, _, _, rfl, rfl, SqL.of (s5 _ _ eL), atI_neg1 ex, q, _, rfl, SqT.of (s5 _ _ (off_of eq).2), rfl, _, _, rfl, _, _, rfl, rfl, ?_, Bx.of s5, b4.same s5⟩
        rw [hl', he, last_snoc]
        rfl
    · rintro σ' H5 ⟨rfl, bx5, b5⟩
      have bx15 := bx14.trans bx5
      have hd5 := hd.same (off_bx bx5)
      refine ⟨_, rfl, b, 12, rfl, by decide, by decide, b5, fun H6 fm hfm bx6 b6 => ?_⟩
      have bx16 := bx15.trans bx6
      have hd6 := hd5.same (off_bx bx6)
      refine ⟨_, rfl, rfl, _, rfl, ?_⟩
      refine ite2 (fun c => ?_) (fun c => ?_)
      · refine ⟨Nat.zero_le _, fun p np => ⟨Nat.zero_le _, fun q nq => ⟨Nat.le_of_ble_eq_true rfl, fun r nr => ?_⟩⟩⟩
        generalize hq : upd H6 p _ = H7 at *
        obtain ⟨s7, e7⟩ := new_facts np hq
        clear hq
        generalize hq : upd H7 q _ = H8 at *
        obtain ⟨s8, e8⟩ := new_facts nq hq
        clear hq
        generalize hq : upd H8 r _ = H9 at *
        obtain ⟨s9, e9⟩ := new_facts nr hq
        clear hq
        have b7 := b6.same s7
        have b8 := b7.same s8
        have s69 := s7.trans (s8.trans s9)
        have ng : ∀ {x : Addr} {o : HO}, H9 x = some o → x ≠ b → off b H9 x = some o := fun e n => by rw [off_ne n]; exact e
        exact k H9 _ none [] [] 0 0 .none (bx16.trans (Bx.of s69)) (b6.same s69) ⟨r, _, p, q, _, _, rfl, e9, bx_free bx16 np (b6.ne np), bx_free (bx16.trans (Bx.of s7)) nq (b7.ne nq)⟩ (.tup (ng e9 (b8.ne nr)) (.cons .non (.cons (.lst (ng (s9 _ _ (s8 _ _ e7)) (b6.ne np)) .nil (by decide)) (.cons (.lst (ng (s9 _ _ e8) (b7.ne nq)) .nil (by decide)) (.cons (.int _) (.cons (.int _) .nil))))) (by decide))
      · have big : ∀ {n : Nat}, n ≤ 4000 → n ≤ sizeLine := fun h => Nat.le_of_lt (small2000 h)
        have hL6 := hd6.lstE
        refine ⟨_, rfl, _, _, rfl, rfl, _, rfl, ?_⟩
        refine ite2 (fun c3 => ?_) (fun c3 => ?_)
        · obtain ⟨L', xs6, eq, eL6, hX6, _⟩ := hL6
          cases eq
          have eL6' := (off_of eL6).2
          have hX6l := hX6.len
          rw [List.length_map] at hX6l
          refine ⟨_, rfl, _, rfl, _, rfl, _, _, rfl, rfl, _, rfl, b, 3, rfl, by decide, by decide, b6, fun H7 d hd7 bx7 b7 => ⟨_, _, rfl, rfl, Nat.le_of_ble_eq_true rfl, fun p np => ⟨Nat.le_of_ble_eq_true rfl, fun q nq => ?_⟩⟩⟩
          generalize hq : upd H7 p _ = H8 at *
          obtain ⟨s8, e8⟩ := new_facts np hq
          clear hq
          generalize hq : upd H8 q _ = H9 at *
          obtain ⟨s9, e9⟩ := new_facts nq hq
          clear hq
          have eL9 := s9 _ _ (s8 _ _ (bx7 _ _ Lb eL6'))
          refine ⟨L, q, _, _, rfl, rfl, eL9, e9, big (by rw [List.length_singleton]; omega), fun r nr => ?_⟩
          generalize hq : upd H9 r _ = H10 at *
          obtain ⟨s10, e10⟩ := new_facts nr hq
          clear hq
          refine ⟨Nat.zero_le _, fun z nz => ⟨Nat.le_of_ble_eq_true rfl, fun g ng => ?_⟩⟩
          generalize hq : upd H10 z _ = H11 at *
          obtain ⟨s11, e11⟩ := new_facts nz hq
          clear hq
          generalize hq : upd H11 g _ = H12 at *
          obtain ⟨s12, e12⟩ := new_facts ng hq
          clear hq
          have b8 := b7.same s8
          have b9 := b8.same s9
          have b10 := b9.same s10
          have b11 := b10.same s11
          have b12 := b11.same s12
          have s712 := s8.trans (s9.trans (s10.trans (s11.trans s12)))
          have nn : ∀ {x : Addr} {o : HO}, H12 x = some o → x ≠ b → off b H12 x = some o := fun e n => by rw [off_ne n]; exact e
          have hX12 := hX6.same (off_bx (bx7.trans (Bx.of s712)))
          have dl : 1 ≤ (1 : Int) + (d : Int) ∧ (1 : Int) + (d : Int) ≤ 3 := ⟨by omega, by omega⟩
          have key := k H12 (.ref g) _ _ _ _ _ (.ends (u : Int) ((t : Int) - 4) (1 + (d : Int)) ss ⟨by omega, by omega⟩ ⟨by omega, by omega⟩ hc (by omega) dl) (bx16.trans (bx7.trans (Bx.of s712))) b12 ⟨g, _, r, z, _, _, rfl, e12, bx_free (bx16.trans (bx7.trans (Bx.of (s8.trans s9)))) nr (b9.ne nr), bx_free (bx16.trans (bx7.trans (Bx.of (s8.trans (s9.trans s10))))) nz (b10.ne nz)⟩
          refine key ?_
          refine .tup (nn e12 (b11.ne ng)) (.cons (.int _) (.cons (.lst (nn (s12 _ _ (s11 _ _ e10)) (b9.ne nr)) ?_ ?_) (.cons (.lst (nn (s12 _ _ e11) (b10.ne nz)) .nil (by decide)) (.cons (.int _) (.cons (.int _) .nil))))) (by show 5 ≤ 2000; decide)
          · rw [List.map_append, List.map_map]
            refine hX12.app (.cons ?_ .nil)
            refine pr_dv (x := prO _) ?_
            rw [nn (s12 _ _ (s11 _ _ (s10 _ _ (s9 _ _ e8)))) (b7.ne np), ← hl']
            show some (HO.tup [.int (l.1 + 1 + (d : Int)), .non]) = some (HO.tup [.int (l.1 + (1 + (d : Int))), .non])
            rw [Int.add_assoc]
          · rw [List.length_map, List.length_append, List.length_map, List.length_singleton]
            omega
        · refine ⟨_, rfl, _, rfl, _, rfl, _, rfl, b, 3, rfl, by decide, by decide, b6, fun H7 n2 hn2 bx7 b7 => ⟨_, _, rfl, rfl, b, l.1, l.2, n2 + 1, ?_, b7, by omega, fun H8 M as hca hla bx8 b8 nM0 hdM => ?_⟩⟩
          · show [V.ref b, V.int l.1, V.int l.2, V.int (1 + (n2 : Int))] = [V.ref b, V.int l.1, V.int l.2, V.int ((n2 + 1 : Nat) : Int)]
            rw [show ((n2 + 1 : Nat) : Int) = 1 + (n2 : Int) by omega]
          · obtain ⟨M', xm, eq, eM, hXM, _⟩ := hdM.lstE
            cases eq
            have Mb := (off_of eM).1
            have eM' := (off_of eM).2
            obtain ⟨x, hx⟩ : ∃ x, as.head? = some x := by
              cases as with
              | nil => exact absurd hla (by simp)
              | cons x r => exact ⟨x, rfl⟩
            obtain ⟨y, hy⟩ : ∃ y, as.getLast? = some y := by
              cases hg : as.getLast? with
              | none =>
                rw [List.getLast?_eq_none_iff] at hg
                rw [hg] at hx
                cases hx
              | some y => exact ⟨y, rfl⟩
            obtain ⟨z1, hz1, q1, e1⟩ : ∃ z1, atI xm 0 = some z1 ∧ ∃ q1, z1 = .ref q1 ∧ H8 q1 = some (.tup [.int x.1, .int x.2]) := by
              cases as with
              | nil => cases hx
              | cons x' r =>
                cases hx
                obtain ⟨z1, hz1, dz1⟩ := DvAll.hd (d := siD x) (ds := r.map siD) hXM
                obtain ⟨q1, rfl, e1⟩ := dv_si dz1
                exact ⟨_, hz1, q1, rfl, (off_of e1).2⟩
            obtain ⟨z2, hz2, q2, e2⟩ : ∃ z2, atI xm (-1) = some z2 ∧ ∃ q2, z2 = .ref q2 ∧ H8 q2 = some (.tup [.int y.1, .int y.2]) := by
              obtain ⟨ys, rfl⟩ := List.getLast?_eq_some_iff.mp hy
              have hXs := hXM
              rw [List.map_append] at hXs
              obtain ⟨z2, hz2, dz2⟩ := DvAll.last hXs
              obtain ⟨q2, rfl, e2⟩ := dv_si dz2
              exact ⟨_, atI_neg1 hz2, q2, rfl, (off_of e2).2⟩
            obtain ⟨rfl, e1⟩ := e1
            obtain ⟨rfl, e2⟩ := e2
            have q1b : q1 ≠ b := fun z => by
              obtain ⟨_, _, _, _, eb⟩ := b8
              rw [z, eb] at e1
              cases e1
            have q2b : q2 ≠ b := fun z => by
              obtain ⟨_, _, _, _, eb⟩ := b8
              rw [z, eb] at e2
              cases e2
            refine ⟨_, rfl, _, rfl, _, _, _, _, rfl, rfl, SqL.of eM', hz2, _, _, _, _, rfl, rfl, SqT.of e2, rfl, ?_⟩
            refine ⟨_, rfl, _, _, _, _, rfl, rfl, SqL.of eM', hz1, _, _, _, _, rfl, rfl, SqT.of e1, rfl, _, _, rfl, rfl, _, _, rfl, rfl, _, rfl, b, 3, rfl, by decide, by decide, b8, fun H9 d1 hd1 bx9 b9 => ⟨_, _, rfl, rfl, ?_⟩⟩
            have eM9 := bx9 _ _ Mb eM'
            have e19 := bx9 _ _ q1b e1
            have e29 := bx9 _ _ q2b e2
            refine ⟨_, rfl, _, rfl, _, rfl, _, rfl, _, rfl, _, rfl, _, _, _, _, rfl, rfl, SqL.of eM9, hz2, _, _, _, _, rfl, rfl, SqT.of e29, rfl, ?_⟩
            refine ⟨_, rfl, _, _, _, _, rfl, rfl, SqL.of eM9, hz1, _, _, _, _, rfl, rfl, SqT.of e19, rfl, _, _, rfl, rfl, _, _, rfl, rfl, _, rfl, b, 3, rfl, by decide, by decide, b9, fun H10 d2 hd2 bx10 b10 => ⟨_, _, rfl, rfl, Nat.le_of_ble_eq_true rfl, fun g ng => ?_⟩⟩
            generalize hq : upd H10 g _ = H11 at *
            obtain ⟨s11, e11⟩ := new_facts ng hq
            clear hq
            have b11 := b10.same s11
            have bx811 := bx9.trans (bx10.trans (Bx.of s11))
            have bx711 := bx7.trans (bx8.trans bx811)
            have key := k H11 (.ref g) _ _ _ _ _ (.turns (u : Int) ((t : Int) - 4) (1 + (d1 : Int)) (1 + (d2 : Int)) ss as x y ⟨by omega, by omega⟩ ⟨by omega, by omega⟩ hc (by omega) (by rw [← hl']; exact hca) (by omega) hx hy ⟨by omega, by omega⟩ ⟨by omega, by omega⟩) (bx16.trans bx711) b11 ⟨g, _, L, M, _, _, rfl, e11, bx_free (bx1.trans (bx2.trans bx3)) nL0 (b3.ne nL0), bx_free (bx16.trans bx7) nM0 (b7.ne nM0)⟩
            refine key ?_
            have e11' : off b H11 g = some (.tup [.int (u : Nat), .ref L, .ref M, .int (y.1 - x.1 + 1 + (d1 : Int)), .int (y.2 - x.2 + 1 + (d2 : Int))]) := by
              rw [off_ne (b10.ne ng)]
              exact e11
            rw [Int.add_assoc, Int.add_assoc] at e11'
            refine .tup e11' (.cons (.int _) (.cons ?_ (.cons (hdM.same (off_bx bx811)) (.cons (.int _) (.cons (.int _) .nil))))) (by show 5 ≤ 2000; decide)
            have := hd6.same (off_bx bx711)
            rw [List.map_map]
            exact this
end
end My

namespace My
open PySem PySem.Spec PyProof.Rows L2
local macro_rules | `(tactic| walk_at "side") => `(tactic| first | (dsimp only; omega) | exact ⟨by omega, by omega⟩ | exact Or.inl ⟨by omega, by omega⟩ | exact Or.inr ⟨by omega, by omega⟩ | decide)
local macro_rules | `(tactic| walk_at "sq") => `(tactic| first | assumption | exact SqL.of (by assumption) | exact SqT.of (by assumption) | (refine L2.Same.seq (by assumption) ?_; walk_at "sq") | (refine L2.Same.seqT (by assumption) ?_; walk_at "sq") | exact Or.inl (by walk_at "sq") | exact Or.inr (by walk_at "sq"))
local macro_rules | `(tactic| walk_at "1") => `(tactic| first
  | refine ⟨_, rfl, iteT ?_⟩
  | refine ⟨_, rfl, iteF ?_⟩
  | refine ⟨_, rfl, ?_⟩
  | refine ⟨_, _, rfl, rfl, (by walk_at "side"), ?_⟩
  | refine ⟨_, _, rfl, rfl, ?_⟩
  | refine ⟨_, _, _, _, true, rfl, .ty _, .base (.int _), kit_ty (a := "int") (by decide +kernel), ?_⟩
  | refine ⟨_, _, _, _, false, rfl, .ty _, .base (.int _), kit_ty (a := "int") (by decide +kernel), ?_⟩
  | refine ⟨_, _, rfl, (by walk_at "sq"), ?_⟩
  | refine ⟨_, _, _, _, rfl, rfl, (by walk_at "sq"), (by first | rfl | assumption), ?_⟩
  | refine Or.inl ⟨_, _, _, _, rfl, rfl, (by walk_at "sq"), (by first | rfl | assumption), ?_⟩
  | refine Or.inr (Or.inl ⟨_, _, _, _, rfl, rfl, (by walk_at "sq"), (by first | rfl | assumption), ?_⟩)
  | refine ⟨_, _, rfl, Or.inl ⟨(by walk_at "sq"), ?_⟩⟩
  | refine ⟨rfl, ?_⟩
  | refine iteT ?_
  | refine iteF ?_
  | refine ⟨_, _, _, _, _, rfl, (by assumption), (by assumption), (by assumption), (by assumption), ?_⟩
  | refine Or.inl ⟨_, rfl, ?_⟩
  | refine Or.inr ⟨_, rfl, ?_⟩
  | refine ⟨_, _, rfl, (by walk_at "side"), ?_⟩
  | refine ⟨_, _, rfl, ?_⟩)
local macro_rules | `(tactic| walk_at "fld") => `(tactic| skip)
local macro_rules | `(tactic| walk_at "s") => `(tactic| repeat walk_at "1")
local macro_rules | `(tactic| walk_at "size") => `(tactic| first | exact Nat.le_of_ble_eq_true rfl | (simp only [List.length_map, List.length_append, List.length_cons, List.length_nil]; omega))
local macro_rules | `(tactic| walk_at "new") => `(tactic| (first | refine ⟨(by walk_at "size"), fun p hp => ?_⟩ | refine fun p hp => ?_); (generalize hq : upd _ p _ = H1); (obtain ⟨s, e⟩ := new_facts hp hq); clear hq)
/-! what the law says of a time -/
def firstAt (time : Int) (c : Option Int) (x : Stp) : Option Int := if x.1 ≤ time then x.2 else c
def againAt (time tt mm : Int) (c : Option Int) (x : Sti) : Option Int := if x.1 + tt ≤ time then some (x.2 + mm) else c
def atL (u : Option Int) (f : List Stp) (a : List Sti) (t m time : Int) : Option Int :=
  match a with
  | [] => f.foldl (firstAt time) u
  | x :: r => if x.1 ≤ time then (x :: r).foldl (againAt time ((time - x.1) / t * t) ((time - x.1) / t * m)) (f.foldl (firstAt time) u) else f.foldl (firstAt time) u
def spAt : Sp := fun vs H Q _ => ∃ (v : V) (u : Option Int) (f : List Stp) (a : List Sti) (t m time : Int), vs = [v, .int time] ∧ Dv H v (rawD u f a t m) ∧ (a ≠ [] → 0 < t) ∧ 0 ≤ t ∧ t < 1000000 ∧ 0 ≤ m ∧ m < 1000000 ∧ f.length ≤ 1000 ∧ a.length ≤ 1000 ∧ ∀ H', Same H H' → Q (cV (atL u f a t m time)) H'
theorem Dv.rawE {H : Hp} {v : V} {u : Option Int} {f : List Stp} {a : List Sti} {t m : Int} (h : Dv H v (rawD u f a t m)) : ∃ r pf pa xf xa, v = .ref r ∧ H r = some (.tup [cV u, .ref pf, .ref pa, .int t, .int m]) ∧ H pf = some (.lst xf) ∧ DvAll H xf (f.map stD) ∧ H pa = some (.lst xa) ∧ DvAll H xa (a.map siD) := by
  cases h with
  | @tup r xs _ er hx _ =>
    obtain ⟨y0, ys, rfl, i0, hx⟩ := hx.inv
    obtain ⟨y1, ys, rfl, i1, hx⟩ := hx.inv
    obtain ⟨y2, ys, rfl, i2, hx⟩ := hx.inv
    obtain ⟨y3, ys, rfl, i3, hx⟩ := hx.inv
    obtain ⟨y4, ys, rfl, i4, hx⟩ := hx.inv
    obtain rfl := hx.inv0
    cases i3
    cases i4
    rw [dv_c i0] at er
    cases i1 with
    | @lst pf xf _ epf hxf _ =>
      cases i2 with
      | @lst pa xa _ epa hxa _ => exact ⟨r, pf, pa, xf, xa, rfl, er, epf, hxf, epa, hxa⟩
section
variable {P : Program} {w : World} {K : PySem.W.Frag} {mg : Str → Option Value} {base : Heap}
abbrev s_law_at : Stmt := topS 29
theorem sc_law_at : FnScope ["raw", "time", "under", "first", "again", "turn", "more", "found", "spot", "count", "turns"] ["raw", "time"] (defScope s_law_at) := ⟨rfl, rfl, rfl, by decide +kernel, rfl, by decide +kernel, by decide +kernel⟩
set_option maxHeartbeats 8000000 in
theorem ok_at (D : Df K mg "_law_at" s_law_at ["raw", "time"]) (T : Txt mg) : Own P w K mg base "_law_at" 1 ["raw", "time"] spAt := by
  refine D.own sc_law_at (fun vs H Q E h => ?_) (fun fa cdv A outer s H vs Q E hr h => ?_)
  · obtain ⟨_, _, _, _, _, _, _, rfl, _⟩ := h
    rfl
  · obtain ⟨v, u, f, a, t, m, time, rfl, hd, t0, t2, t1, m0, m1, lf, la, k⟩ := h
    obtain ⟨r, pf, pa, xf, xa, rfl, er, epf, hxf, epa, hxa⟩ := hd.rawE
    refine ⟨_, (pss_cons (ps_asg (pv 0) (pg_tup (by rfl) (pgs_cons (pg_name (i := 2) sc_law_at.nd rfl (Or.inl rfl)) (pgs_cons (pg_name (i := 3) sc_law_at.nd rfl (Or.inl rfl)) (pgs_cons (pg_name (i := 4) sc_law_at.nd rfl (Or.inl rfl)) (pgs_cons (pg_name (i := 5) sc_law_at.nd rfl (Or.inl rfl)) (pgs_cons (pg_name (i := 6) sc_law_at.nd rfl (Or.inl rfl)) pgs_nil)))))))
  (pss_cons (ps_set (i := 7) sc_law_at.nd rfl (Or.inl rfl) (pv 2))
  (pss_cons (ps_for PassesOwn.never rfl (pi_list (pv 3)) (pg_tup (by rfl) (pgs_cons (pg_name (i := 8) sc_law_at.nd rfl (Or.inl rfl)) (pgs_cons (pg_name (i := 9) sc_law_at.nd rfl (Or.inl rfl)) pgs_nil)))
    (pss_one (ps_if (pt_cmpR op_le (pv 8) (pv 1) (nomark _))
        (pss_one (ps_set (i := 7) sc_law_at.nd rfl (Or.inl rfl) (pv 9)))
        pss_nil)))
  (pss_cons (ps_if (PW.pt (pw_and (pt_cmpR (op_neD hr.units) (pv 4) (pe_lst pa_nil) (nomark _)) (pw_and1 (pt_cmpR op_ge (pv 1) (pe_ix ix_tup (pe_ix ix_list (pv 4) pe_int (fun _ _ => rfl)) pe_int (fun _ _ => rfl)) (nomark _)))))
    (pss_cons (ps_set (i := 10) sc_law_at.nd rfl (Or.inl rfl) (pe_op op_fdiv (pe_callTy call_int1 (by rfl) T.int (by decide +kernel) (pa_cons (pe_op op_sub (pv 1) (pe_ix ix_tup (pe_ix ix_list (pv 4) pe_int (fun _ _ => rfl)) pe_int (fun _ _ => rfl))) pa_nil)) (pv 5)))
      (pss_one (ps_for PassesOwn.never rfl (pi_list (pv 4)) (pg_tup (by rfl) (pgs_cons (pg_name (i := 8) sc_law_at.nd rfl (Or.inl rfl)) (pgs_cons (pg_name (i := 9) sc_law_at.nd rfl (Or.inl rfl)) pgs_nil)))
        (pss_one (ps_if (pt_cmpR op_le (pe_op op_add (pv 8) (pe_op op_mul (pv 10) (pv 5))) (pv 1) (nomark _))
            (pss_one (ps_set (i := 7) sc_law_at.nd rfl (Or.inl rfl) (pe_op op_add (pv 9) (pe_op op_mul (pv 10) (pv 6)))))
            pss_nil)))))
    pss_nil)
  (pss_one (ps_ret (pv 7))))))), ?_⟩
    have hlf := hxf.len
    have hla := hxa.len
    rw [List.length_map] at hlf hla
    refine ⟨_, rfl, r, _, rfl, SqT.of er, rfl, _, _, rfl, _, _, rfl, _, _, rfl, _, _, rfl, _, _, rfl, rfl, ?_⟩
    refine ⟨_, rfl, ?_⟩
    refine ⟨_, rfl, pf, rfl, ⟨_, SqL.of epf⟩, for_seq (seqIt_l (SqL.of epf)) (fun i σ' H' => ∃ y z : Option V, σ' = [some (.ref r), some (.int time), some (cV u), some (.ref pf), some (.ref pa), some (.int t), some (.int m), some (cV ((f.take i).foldl (firstAt time) u)), y, z, none] ∧ H' = H)
      ⟨none, none, rfl, rfl⟩ (fun i σ' H' ⟨_, _, _, e⟩ => e ▸ Same.refl _) ?_ ?_⟩
    · rintro i x σ' H' hx ⟨y, z, rfl, rfl⟩
      obtain ⟨d, ed, hdx⟩ := hxf.get hx
      rw [List.getElem?_map] at ed
      obtain ⟨q, eq, rfl⟩ := Option.map_eq_some_iff.mp ed
      obtain ⟨pq, rfl, epq⟩ := dv_pr (x := prO q) hdx
      have et : (f.take (i + 1)).foldl (firstAt time) u = firstAt time ((f.take i).foldl (firstAt time) u) q := by
        rw [List.take_add_one, eq, List.foldl_append]
        rfl
      refine ⟨pq, _, rfl, SqT.of epq, rfl, _, _, rfl, _, _, rfl, rfl, ?_⟩
      refine ⟨_, rfl, _, rfl, _, _, rfl, rfl, _, rfl, ?_⟩
      refine ite2 (fun c => ?_) (fun c => ?_)
      · have c' : q.1 ≤ time := of_decide_eq_true c
        refine ⟨_, rfl, some (.int q.1), some (cV q.2), ?_, rfl⟩
        rw [et, firstAt, if_pos c']
        rfl
      · have c' : ¬ q.1 ≤ time := fun z => c (decide_eq_true z)
        refine ⟨some (.int q.1), some (cV q.2), ?_, rfl⟩
        rw [et, firstAt, if_neg c']
        rfl
    · rintro σ' H' ⟨y, z, rfl, rfl⟩
      rw [hlf, List.take_length]
      generalize hf0 : f.foldl (firstAt time) u = c0
      refine ⟨_, rfl, Nat.zero_le _, fun p np => ?_⟩
      have s1 := same_upd (o := .lst []) np
      have d1 : Dv (upd H' p (.lst [])) (.ref pa) (.list (a.map siD)) := .lst (s1 _ _ epa) (hxa.same s1) (by rw [List.length_map]; omega)
      have d2 : Dv (upd H' p (.lst [])) (.ref p) (.list (([] : List Sti).map siD)) := .lst upd_same .nil (by decide)
      refine ⟨_, _, d1.dp, d2.dp, shaped_si _, shaped_si _, ?_⟩
      rw [eqv_sil]
      refine ⟨_, rfl, ?_⟩
      have epa1 := s1 _ _ epa
      have hxa1 := hxa.same s1
      generalize upd H' p (.lst []) = H1 at *
      cases a with
      | nil =>
        rw [decide_eq_true rfl]
        refine iteF ?_
        refine iteF ?_
        refine ⟨_, rfl, ?_⟩
        have := k H1 s1
        rw [show atL u f [] t m time = c0 from hf0] at this
        exact this
      | cons x rr =>
        rw [decide_eq_false (by simp)]
        refine iteT ?_
        have t0 := t0 (by simp)
        obtain ⟨w1, ws, rfl, dw, _⟩ := DvAll.inv (d := siD x) (ds := rr.map siD) hxa1
        obtain ⟨q, rfl, eq⟩ := dv_si dw
        refine ⟨_, rfl, _, rfl, _, _, _, _, rfl, rfl, SqL.of epa1, atI_nat (j := 0) rfl, _, _, _, _, rfl, rfl, SqT.of eq, rfl, _, _, rfl, rfl, _, rfl, ?_⟩
        refine ite2 (fun c => ?_) (fun c => ?_)
        · have c' : x.1 ≤ time := of_decide_eq_true c
          have el : atL u f (x :: rr) t m time = (x :: rr).foldl (againAt time ((time - x.1) / t * t) ((time - x.1) / t * m)) c0 := by
            show (if x.1 ≤ time then _ else _) = _
            rw [if_pos c', hf0]
          refine ⟨_, rfl, _, rfl, _, _, _, _, rfl, rfl, SqL.of epa1, atI_nat (j := 0) rfl, _, _, _, _, rfl, rfl, SqT.of eq, rfl, _, _, rfl, rfl, Or.inl ⟨_, rfl, _, rfl, _, _, rfl, rfl, ⟨t0, by omega⟩, ?_⟩⟩
          obtain ⟨tn, htn⟩ : ∃ tn, (time - x.1) / t = tn := ⟨_, rfl⟩
          rw [htn] at el
          have cm : ∀ i j : Int, 0 ≤ j → j < 1000000 → CMul i j := fun i j h1 h2 => Or.inr ⟨by omega, by omega⟩
          refine ⟨_, rfl, pa, rfl, ⟨_, SqL.of epa1⟩, for_seq (seqIt_l (SqL.of epa1)) (fun i σ' H2 => ∃ y z : Option V, σ' = [some (.ref r), some (.int time), some (cV u), some (.ref pf), some (.ref pa), some (.int t), some (.int m), some (cV (((x :: rr).take i).foldl (againAt time (tn * t) (tn * m)) c0)), y, z, some (.int tn)] ∧ H2 = H1)
            ⟨y, z, by rw [← htn]; rfl, rfl⟩ (fun i σ' H2 ⟨_, _, _, e⟩ => e ▸ Same.refl _) ?_ ?_⟩
          · rintro i x2 σ' H2 hx2 ⟨y, z, rfl, rfl⟩
            obtain ⟨d, ed, hdx⟩ := hxa1.get hx2
            rw [List.getElem?_map] at ed
            obtain ⟨q2, eq2, rfl⟩ := Option.map_eq_some_iff.mp ed
            obtain ⟨pq, rfl, epq⟩ := dv_si hdx
            have et : ((x :: rr).take (i + 1)).foldl (againAt time (tn * t) (tn * m)) c0 = againAt time (tn * t) (tn * m) (((x :: rr).take i).foldl (againAt time (tn * t) (tn * m)) c0) q2 := by
              rw [List.take_add_one, eq2, List.foldl_append]
              rfl
            refine ⟨pq, _, rfl, SqT.of epq, rfl, _, _, rfl, _, _, rfl, rfl, ?_⟩
            refine ⟨_, rfl, _, rfl, _, rfl, _, _, rfl, rfl, cm _ _ t2 t1, _, _, rfl, rfl, _, rfl, _, _, rfl, rfl, _, rfl, ?_⟩
            refine ite2 (fun c2 => ?_) (fun c2 => ?_)
            · have c2' : q2.1 + tn * t ≤ time := of_decide_eq_true c2
              refine ⟨_, rfl, _, rfl, _, rfl, _, _, rfl, rfl, cm _ _ m0 m1, _, _, rfl, rfl, some (.int q2.1), some (.int q2.2), ?_, rfl⟩
              rw [et, againAt, if_pos c2']
              rfl
            · have c2' : ¬ q2.1 + tn * t ≤ time := fun z => c2 (decide_eq_true z)
              refine ⟨some (.int q2.1), some (.int q2.2), ?_, rfl⟩
              rw [et, againAt, if_neg c2']
              rfl
          · rintro σ' H2 ⟨y, z, rfl, rfl⟩
            have hw : (V.ref q :: ws).length = (x :: rr).length := hla
            rw [hw, List.take_length]
            refine ⟨_, rfl, ?_⟩
            have := k H2 s1
            rw [el] at this
            exact this
        · have c' : ¬ x.1 ≤ time := fun z => c (decide_eq_true z)
          refine ⟨_, rfl, ?_⟩
          have := k H1 s1
          rw [show atL u f (x :: rr) t m time = c0 by show (if x.1 ≤ time then _ else _) = _; rw [if_neg c', hf0]] at this
          exact this
end
end My

namespace My
open PySem PySem.Spec PyProof.Rows L2
local macro_rules | `(tactic| walk_at "side") => `(tactic| first | (dsimp only; omega) | exact ⟨by omega, by omega⟩ | exact Or.inl ⟨by omega, by omega⟩ | exact Or.inr ⟨by omega, by omega⟩ | decide)
local macro_rules | `(tactic| walk_at "sq") => `(tactic| first | assumption | exact SqL.of (by assumption) | exact SqT.of (by assumption) | (refine L2.Same.seq (by assumption) ?_; walk_at "sq") | (refine L2.Same.seqT (by assumption) ?_; walk_at "sq") | exact Or.inl (by walk_at "sq") | exact Or.inr (by walk_at "sq"))
local macro_rules | `(tactic| walk_at "1") => `(tactic| first
  | refine ⟨_, rfl, iteT ?_⟩
  | refine ⟨_, rfl, iteF ?_⟩
  | refine ⟨_, rfl, ?_⟩
  | refine ⟨_, _, rfl, rfl, (by walk_at "side"), ?_⟩
  | refine ⟨_, _, rfl, rfl, ?_⟩
  | refine ⟨_, _, _, _, true, rfl, .ty _, .base (.int _), kit_ty (a := "int") (by decide +kernel), ?_⟩
  | refine ⟨_, _, _, _, false, rfl, .ty _, .base (.int _), kit_ty (a := "int") (by decide +kernel), ?_⟩
  | refine ⟨_, _, rfl, (by walk_at "sq"), ?_⟩
  | refine ⟨_, _, _, _, rfl, rfl, (by walk_at "sq"), (by first | rfl | assumption), ?_⟩
  | refine Or.inl ⟨_, _, _, _, rfl, rfl, (by walk_at "sq"), (by first | rfl | assumption), ?_⟩
  | refine Or.inr (Or.inl ⟨_, _, _, _, rfl, rfl, (by walk_at "sq"), (by first | rfl | assumption), ?_⟩)
  | refine ⟨_, _, rfl, Or.inl ⟨(by walk_at "sq"), ?_⟩⟩
  | refine ⟨rfl, ?_⟩
  | refine iteT ?_
  | refine iteF ?_
  | refine ⟨_, _, _, _, _, rfl, (by assumption), (by assumption), (by assumption), (by assumption), ?_⟩
  | refine Or.inl ⟨_, rfl, ?_⟩
  | refine Or.inr ⟨_, rfl, ?_⟩
  | refine ⟨_, _, rfl, (by walk_at "side"), ?_⟩
  | refine ⟨_, _, rfl, ?_⟩)
local macro_rules | `(tactic| walk_at "fld") => `(tactic| skip)
local macro_rules | `(tactic| walk_at "s") => `(tactic| repeat walk_at "1")
local macro_rules | `(tactic| walk_at "size") => `(tactic| first | exact Nat.le_of_ble_eq_true rfl | (simp only [List.length_map, List.length_append, List.length_cons, List.length_nil]; omega))
local macro_rules | `(tactic| walk_at "new") => `(tactic| (first | refine ⟨(by walk_at "size"), fun p hp => ?_⟩ | refine fun p hp => ?_); (generalize hq : upd _ p _ = H1); (obtain ⟨s, e⟩ := new_facts hp hq); clear hq)
/-! the law's tally, its fraction -/
structure TalMk (P : Program) (w : World) (K : PySem.W.Frag) (mg : Str → Option Value) (base : Heap) (C D : Addr) : Prop where
  ex : ∃ f fd, FnOk P w K mg base (L2.CX P w) 5 f fd ["self", "under", "first", "again", "turn", "more"] (spInitT C D) ∧ mg "Tally" = some (.ref C) ∧ Mk K C f ∧ Binds K fd ["self", "under", "first", "again", "turn", "more"] []
/-- what becomes of arguments: the error, or the tally -/
structure Made (C D : Addr) (H : Hp) (d0 d1 d2 d3 d4 : PyData) (Q : VK) (E : XK) : Prop where
  bad : ∀ w, wordT d0 d1 d2 d3 d4 = some w → ∀ H' d, Same H H' → H' d = some (.xd [("word", .str w)]) → E (.ref D) (some d) H'
  good : wordT d0 d1 d2 d3 d4 = none → (itemsD d1).length ≤ 1000 ∧ (itemsD d2).length ≤ 1000 ∧ ∀ H' p f' a' t' m', Same H H' → H p = none → MadeT (fsD d1) (asD d2) (intD d3) (intD d4) f' a' t' m' → TalAt C H' p (cO d0) f' a' t' m' → Q (.ref p) H'
theorem rd_init {C D x dx : Addr} {H : Hp} {v0 v1 v2 v3 v4 : V} {d0 d1 d2 d3 d4 : PyData} {Q : VK} {E : XK} (h0 : Dv H v0 d0) (h1 : Dv H v1 d1) (h2 : Dv H v2 d2) (h3 : Dv H v3 d3) (h4 : Dv H v4 d4) (M : Made C D H d0 d1 d2 d3 d4 Q E) (nx : H x = none) (ndx : H dx = none) (nex : dx ≠ x) :
    spInitT C D [.ref x, v0, v1, v2, v3, v4] (upd (upd H dx (.own x)) x (.ins C dx [])) (fun r H' => r = .non ∧ Q (.ref x) H') E := by
  have sx : Same H (upd (upd H dx (.own x)) x (.ins C dx [])) := fun b o e => by
    rw [upd_ne (ne_of_none e nx), upd_ne (ne_of_none e ndx)]
    exact e
  refine ⟨H, x, dx, v0, v1, v2, v3, v4, d0, d1, d2, d3, d4, rfl, nx, sx, upd_same, h0, h1, h2, h3, h4, M.bad, fun hw => ?_⟩
  obtain ⟨l1, l2, g⟩ := M.good hw
  exact ⟨l1, l2, fun H' f' a' t' m' s' mt ta => ⟨rfl, g H' x f' a' t' m' s' nx mt ta⟩⟩
def spMade (C D : Addr) : Sp := fun vs H Q E => ∃ (r : Addr) (v0 v1 v2 v3 v4 : V) (d0 d1 d2 d3 d4 : PyData), vs = [.ref r] ∧ (H r = some (.lst [v0, v1, v2, v3, v4]) ∨ H r = some (.tup [v0, v1, v2, v3, v4])) ∧ Dv H v0 d0 ∧ Dv H v1 d1 ∧ Dv H v2 d2 ∧ Dv H v3 d3 ∧ Dv H v4 d4 ∧ Made C D H d0 d1 d2 d3 d4 Q E
theorem rd_item {K : PySem.W.Frag} {H : Hp} {A : Addr} {xs : List V} {i : Int} {v : V} {σ : L2.St} {j : Nat} {Q : VK} (hS : SqS K H A xs) (hv : σ[j]? = some (some (.ref A))) (hi : atI xs i = some v) (h : Q v H) : tOp (rIxL K) (tVar j) (tC (.int i)) σ H Q ∨ tOp (rIxT K) (tVar j) (tC (.int i)) σ H Q := by
  rcases hS with hS | hS
  · exact Or.inl ⟨_, hv, A, xs, i, _, rfl, rfl, hS, hi, h⟩
  · exact Or.inr ⟨_, hv, A, xs, i, _, rfl, rfl, hS, hi, h⟩
section
variable {P : Program} {w : World} {K : PySem.W.Frag} {mg : Str → Option Value} {base : Heap} {C D : Addr}
abbrev s_law_made : Stmt := topS 30
theorem sc_law_made : FnScope ["raw"] ["raw"] (defScope s_law_made) := ⟨rfl, rfl, rfl, by decide +kernel, rfl, by decide +kernel, by decide +kernel⟩
set_option maxHeartbeats 4000000 in
theorem ok_made (F : Df K mg "_law_made" s_law_made ["raw"]) (M : TalMk P w K mg base C D) : OwnX P w K mg base "_law_made" 7 ["raw"] (spMade C D) := by
  obtain ⟨fM, fdM, FM, mM, MM, bM⟩ := M.ex
  refine F.ownX sc_law_made (fun vs H Q E h => ?_) (fun f cdv A outer s H vs Q E hr h => ?_)
  · obtain ⟨_, _, _, _, _, _, _, _, _, _, _, rfl, _⟩ := h
    rfl
  · obtain ⟨r, v0, v1, v2, v3, v4, d0, d1, d2, d3, d4, rfl, hr', h0, h1, h2, h3, h4, MD⟩ := h
    refine ⟨_, (pss_one (ps_ret (pe_makeS MM FM (hr.mono (by decide)) rfl mM bM .nil (fun σ => passAt (takes_of rfl rfl rfl rfl) σ) (pa_cons (pe_alt (pe_ix ix_list (pv 0) pe_int (fun _ _ => rfl)) (pe_ix ix_tup (pv 0) pe_int (fun _ _ => rfl))) (pa_cons (pe_alt (pe_ix ix_list (pv 0) pe_int (fun _ _ => rfl)) (pe_ix ix_tup (pv 0) pe_int (fun _ _ => rfl))) (pa_cons (pe_alt (pe_ix ix_list (pv 0) pe_int (fun _ _ => rfl)) (pe_ix ix_tup (pv 0) pe_int (fun _ _ => rfl))) (pa_cons (pe_alt (pe_ix ix_list (pv 0) pe_int (fun _ _ => rfl)) (pe_ix ix_tup (pv 0) pe_int (fun _ _ => rfl))) (pa_cons (pe_alt (pe_ix ix_list (pv 0) pe_int (fun _ _ => rfl)) (pe_ix ix_tup (pv 0) pe_int (fun _ _ => rfl))) pa_nil)))))))), ?_⟩
    have hS : SqS K H r [v0, v1, v2, v3, v4] := hr'.imp SqL.of SqT.of
    refine rd_item hS rfl (atI_nat (j := 0) rfl) ?_
    refine rd_item hS rfl (atI_nat (j := 1) rfl) ?_
    refine rd_item hS rfl (atI_nat (j := 2) rfl) ?_
    refine rd_item hS rfl (atI_nat (j := 3) rfl) ?_
    refine rd_item hS rfl (atI_nat (j := 4) rfl) ?_
    exact fun x dx nx ndx nex => rd_init h0 h1 h2 h3 h4 MD nx ndx nex
abbrev s_law_divisor : Stmt := topS 31
theorem sc_law_divisor : FnScope ["one", "other"] ["one", "other"] (defScope s_law_divisor) := ⟨rfl, rfl, rfl, by decide +kernel, rfl, by decide +kernel, by decide +kernel⟩
def spDiv : Sp := fun vs H Q _ => ∃ (i j : Nat), vs = [.int i, .int j] ∧ j < 1000000 ∧ Q (.int (Nat.gcd i j : Nat)) H
theorem ok_div (D : Df K mg "_law_divisor" s_law_divisor ["one", "other"]) (T : Txt mg) : Own P w K mg base "_law_divisor" 1 ["one", "other"] spDiv := by
  refine D.own sc_law_divisor (fun vs H Q E h => ?_) (fun fa cdv A outer s H vs Q E hr h => ?_)
  · obtain ⟨_, _, rfl, _⟩ := h
    rfl
  · obtain ⟨i, j, rfl, j1, k⟩ := h
    refine ⟨_, (pss_cons (ps_while PassesOwn.never (pt_cmpR op_gt (pv 1) pe_int (nomark _))
    (pss_one (ps_par (i := 0) (j := 1) (by rfl) sc_law_divisor.nd rfl rfl (by decide) rfl rfl (pa_cons (pv 1) (pa_cons (pe_op op_mod (pe_callTy call_int1 (by rfl) T.int (by decide +kernel) (pa_cons (pv 0) pa_nil)) (pv 1)) pa_nil)) (by rfl))))
  (pss_one (ps_ret (pv 0)))), ?_⟩
    refine ⟨fun m σ H' => ∃ i' : Nat, m ≤ j ∧ σ = [some (.int (i' : Nat)), some (.int (m : Nat))] ∧ H' = H ∧ Nat.gcd i' m = Nat.gcd i j, ⟨j, i, Nat.le_refl _, rfl, rfl, rfl⟩, ?_⟩
    rintro m σ H' ⟨i', lm, rfl, rfl, e⟩
    cases m with
    | zero =>
      refine ⟨_, rfl, _, _, rfl, rfl, _, rfl, ?_⟩
      refine iteF ?_
      rw [← e, Nat.gcd_zero_right] at k
      exact ⟨_, rfl, k⟩
    | succ m =>
      refine ⟨_, rfl, _, _, rfl, rfl, _, rfl, ?_⟩
      rw [decide_eq_true (by omega : (0 : Int) < ((m + 1 : Nat) : Int))]
      refine iteT ?_
      refine ⟨fun σ' H'' => σ' = [some (.int ((m + 1 : Nat) : Int)), some (.int ((i' % (m + 1) : Nat) : Int))] ∧ H'' = H', ?_, ?_⟩
      · rintro σ' H'' ⟨rfl, rfl⟩
        have := Nat.mod_lt i' (Nat.succ_pos m)
        exact ⟨_, this, _, by omega, rfl, rfl, by rw [← e, Nat.gcd_comm i' (m + 1), Nat.gcd_rec (m + 1) i', Nat.gcd_comm]⟩
      · refine ⟨_, rfl, _, rfl, Or.inl ⟨_, rfl, _, rfl, _, _, rfl, rfl, by omega, _, _, rfl, ?_, rfl⟩⟩
        rfl
abbrev s_law_lowest : Stmt := topS 32
theorem sc_law_lowest : FnScope ["upper", "lower", "shared"] ["upper", "lower"] (defScope s_law_lowest) := ⟨rfl, rfl, rfl, by decide +kernel, rfl, by decide +kernel, by decide +kernel⟩
def spLowest : Sp := fun vs H Q _ => ∃ i j : Int, vs = [.int i, .int j] ∧ 0 < j ∧ j < 1000000 ∧ ∀ H' p, Same H H' → H p = none → H' p = some (.tup [.int (lowN i j), .int (lowD i j)]) → Q (.ref p) H'
theorem ok_lowest (D : Df K mg "_law_lowest" s_law_lowest ["upper", "lower"]) (T : Txt mg) (o_law_divisor : Own P w K mg base "_law_divisor" 1 ["one", "other"] spDiv) : Own P w K mg base "_law_lowest" 2 ["upper", "lower"] spLowest := by
  refine D.own sc_law_lowest (fun vs H Q E h => ?_) (fun fa cdv A outer s H vs Q E hr h => ?_)
  · obtain ⟨_, _, rfl, _⟩ := h
    rfl
  · obtain ⟨i, j, rfl, j0, j1, k⟩ := h
    refine ⟨_, (pss_cons (ps_set (i := 2) sc_law_lowest.nd rfl (Or.inl rfl) (pe_own o_law_divisor (hr.mono (by decide)) (pa_cons (pe_callB call_abs (by rfl) T.abs (by decide +kernel) (pa_cons (pv 0) pa_nil)) (pa_cons (pv 1) pa_nil))))
  (pss_one (ps_ret (pe_tup (pa_cons (pe_op op_fdiv (pv 0) (pv 2)) (pa_cons (pe_op op_fdiv (pv 1) (pv 2)) pa_nil)))))), ?_⟩
    have g0 : 0 < Nat.gcd i.natAbs j.natAbs := Nat.gcd_pos_of_pos_right _ (by omega)
    have g1 : Nat.gcd i.natAbs j.natAbs ≤ j.natAbs := Nat.gcd_le_right _ (by omega)
    refine ⟨_, rfl, _, rfl, _, rfl, i.natAbs, j.natAbs, ?_, by omega, ?_⟩
    · show [V.int _, V.int j] = _
      rw [show ((j.natAbs : Nat) : Int) = j by omega]
      have e : (if i < 0 then -i else i) = (i.natAbs : Int) := by
        split <;> omega
      exact congrArg (fun z => [V.int z, V.int j]) e
    · refine ⟨_, rfl, _, rfl, _, _, rfl, rfl, ⟨by omega, by omega⟩, _, rfl, _, rfl, _, _, rfl, rfl, ⟨by omega, by omega⟩, Nat.le_of_ble_eq_true rfl, fun p np => ?_⟩
      exact k _ p (same_upd np) np upd_same
end
end My

set_option linter.all false
/-! a lambda handed to a def that calls it within a try with a name: what it lets out is told with the slots -/
namespace My
open PySem PySem.Spec PyProof.Rows L2 LamX
/-- the context of the def that got the lambda -/
abbrev gotCx (X : Cx) (CXg : CXT) (Eg : XK) (Ng : List Str) (qg : Str) (sg : Scope) (g : Addr) (cdg : Value) (s : Shared) (H : Hp) : Cx := cxOf CXg X.prog X.w X.K X.mg X.base Ng qg sg g cdg X.A X.stack s H Eg
abbrev lamObj (X : Cx) (params : Arguments) (body : Expr) (scope : Scope) (pm : Value) (c' : Addr) (ctv : Value) : Obj :=
  PySem.W.kla_obj "<lambda>" (X.env.qual ++ "<lambda>") params body scope (cloFrom X.env.cells scope.names []) pm c' ctv
section
variable {X : Cx} {pins : List (Addr × Obj)} {σ : L2.St} {H : Hp} {s : Shared} {CXg : CXT} {Eg : XK} {Ng : List Str} {qg a : Str} {sg : Scope} {g f c' : Addr} {cdg pm ctv : Value} {params : Arguments} {body : Expr} {scope : Scope} {k i : Nat} {pn : List (Addr × Obj)}
  {xe : Value → Shared → Prop} {W : WX} {E : XK} {tb : TE} {p1 p2 : Pos}
theorem pe_actS (I : Inv X pins σ H s) (L : LamS X.env.scope scope) (lies : s.heap.get? f = some (lamObj X params body scope pm c' ctv)) (new : H f = none) (nofr : f ∉ frs X.stack)
    (none_ : bindArgs (PySem.W.kla_fn "<lambda>" (X.env.qual ++ "<lambda>") params body scope (cloFrom X.env.cells scope.names []) pm (.ref c') ctv) ⟨[], []⟩ = pure [])
    (tk : Takes ((gotCx X CXg Eg Ng qg sg g cdg s H).tr pn xe) W) (room : Room (k + 1) (X.A.deeper (envOfC qg sg s.heap.objs.size g cdg)))
    (inner : ∀ (A : Around) (outer : List Env) (s : Shared) (H : Hp), Room k (A.deeper (lamEnv X scope s.heap.objs.size f c')) → PE (lamCx X A outer s H E scope f c') body tb)
    (at_ : Ng[i]? = some a) (vis : Vis sg a) (nd : (a == ("__debug__" : Str)) = false := by decide) (nc : (a == ("__classdict__" : Str)) = false := by decide) :
    PE ((gotCx X CXg Eg Ng qg sg g cdg s H).tr pn xe) (.Call (.Name a p1) [] [] p2) (fun σ2 H2 Q =>
      σ2[i]? = some (some (.ref f)) ∧ H2 c' = some (CodeO c' (X.env.qual ++ "<lambda>")) ∧ (∀ cls d H', E cls d H' → W cls d σ2 H') ∧ tb σ H2 Q) := by
  refine ⟨fun pins2 s2 σ2 H2 Q I2 red => ?_⟩
  obtain ⟨slot, code, lets, inside⟩ := red
  have var := (pe_var (pos := p1) (i := i) at_ vis nd nc).run pins2 s2 σ2 H2 (fun v H1 => v = .ref f ∧ H1 = H2) I2 ⟨.ref f, slot, rfl, rfl⟩
  refine wpAny_Call_Name_kw (thn var ?_)
  rintro u s1 ⟨v, H1, I1, rv, rfl, rfl⟩
  obtain rfl : u = Value.ref f := rv
  have lies1 : s1.heap.get? f = some (lamObj X params body scope pm c' ctv) := I1.base.keep f _ lies new nofr (fun z => absurd (show f ∈ ([] : List Addr) from z) (by simp))
  refine PySem.W.callWith_F0 ⟨_, _, _, _, lies1⟩ ?_
  have undone : Un (frs X.stack) [] H H1 s.heap s1.heap := I1.base
  obtain ⟨⟨oc, vs, t, c1, c2, c3⟩, _⟩ := I1.hok c' _ code
  have call_ : codeAny (model X.prog X.w) (X.A.deeper (envOfC qg sg s.heap.objs.size g cdg)) (.call (.ref f) ⟨[], []⟩)
      (CR (L2.CX X.prog X.w) (envOfC qg sg s.heap.objs.size g cdg :: X.stack) X.prog X.w H1 s1 Q E) s1 := by
    refine PySem.W.kla_callFunE room.depth lies1 rfl L.co L.gen rfl ⟨c', oc, vs, t, rfl, c1, c2, c3⟩ ?_
    rw [none_]
    have noOwn : ∀ y ∈ scope.names, y.2 ≠ .cell := fun y hy => (L.own y hy).2
    refine wpAny_pure (wpAny_newFunctionEnv noOwn (fun y hy => by cases hy) (fun h2 ns grown => ⟨I1.nolimit.fresh _ grown, ?_⟩) L.kind)
    have old : ∀ b o, s1.heap.get? b = some o → h2.get? b = some o := fun b o e =>
      grown.extBut b o (Nat.ne_of_lt (Heap.lt_size e)) (Heap.get?_push_of_some _ e)
    have J := lam_start2 (A := X.A.deeper (envOfC qg sg s.heap.objs.size g cdg)) (outer := envOfC qg sg s.heap.objs.size g cdg :: X.stack) (E := E) (f := f) (c' := c') (tk := s1.toks + ([] : List (Str × Value)).length) I L I1.env0 room.hd undone ns old
    refine PySem.W.kla_codeExpr (wpAny_mono ((inner _ _ s1 H1 (room.deeper _)).run [] _ _ H1 Q J inside) ?_ fun _ _ z => z)
    rintro v s3 ⟨w3, H3, J3, r3, q3⟩
    exact ⟨w3, H3, J3.os, J3.bare, J3.base, J3.hok, r3, q3⟩
  refine wpAny_call (codeAny_mono call_ ?_)
  intro r s3 z
  cases r
  case error e => exact tk e s3 (XE.of_call I1 lets z)
  case ok fl =>
    cases fl
    case ret u => exact I1.after z
    all_goals exact False.elim z
end
/-- the def that calls what it got, its reading of it told with the slots -/
def GivesS (X : Cx) (Ng : List Str) (x : Str) (sg : Scope) (g : Addr) (cdg : Value) (bg : List Stmt) (a : Str) (q : Str) (TT : (XK → Hp → VK → Prop) → Hp → VK → Prop) : Prop :=
  ∀ (f c' : Addr) (s : Shared) (H : Hp) (Q : VK) (tl : XK → Hp → VK → Prop),
    (∀ (W : WX) (pn : List (Addr × Obj)) (xe : Value → Shared → Prop) (E : XK) (p1 p2 : Pos), Takes ((gotCx X C8.CX0 C8.E0 Ng x sg g cdg s H).tr pn xe) W →
      PE ((gotCx X C8.CX0 C8.E0 Ng x sg g cdg s H).tr pn xe) (.Call (.Name a p1) [] [] p2) (fun σ2 H2 Q => σ2[0]? = some (some (.ref f)) ∧ H2 c' = some (CodeO c' q) ∧ (∀ cls d H', E cls d H' → W cls d σ2 H') ∧ tl E H2 Q)) →
    H c' = some (CodeO c' q) → TT tl H Q → ∃ t, PSs (gotCx X C8.CX0 C8.E0 Ng x sg g cdg s H).nox bg t ∧ t { nx := fun _ H' => Q .non H', rt := Q } (L2.start Ng [.ref f]) H
section
variable {X : Cx}
/-- x(lambda: body) -/
theorem pe_lamS {T : List (Addr × Str)} {TT : (XK → Hp → VK → Prop) → Hp → VK → Prop} {x a : Str} {g c P : Addr} {k : Nat} {pg : Arguments} {bg : List Stmt} {sg : Scope} {dV kV doc pm cdv ct oc : Value} {an od : Option Addr} {osl : Array (Option Value)} {Ng : List Str} {params : Arguments}
    {body : Expr} {scope : Scope} {t : XK → TE} {p lpos pos : Pos} (glob : Gl X x) (is_ : X.mg x = some (.ref g)) (kept : PySem.W.keepIn X.K (.ref g) = true) (lk : X.K.lookup g = some ⟨oc, od, .func (PySem.W.fnOf x x pg bg sg dV kV doc pm an cdv ct), osl⟩)
    (code : PySem.W.codeIn X.K cdv x = true) (binds : L2.Binds X.K (PySem.W.fnOf x x pg bg sg dV kV doc pm an cdv ct) [a] []) (Sg : FnScope Ng [a] sg) (first : Ng[0]? = some a) (vis : Vis sg a) (gives : GivesS X Ng x sg g cdv bg a (X.env.qual ++ "<lambda>") TT)
    (TB : TabB X.base X.mg c P) (mine : X.env.code = .ref c) (inT : (P, X.env.qual ++ "<lambda>") ∈ T) (one : ∀ p ∈ T, p.1 = P → p.2 = X.env.qual ++ "<lambda>") (room : Room (k + 2) X.A) (L : LamS X.env.scope scope) (nodef : defaultsOf params X.env = ([], []))
    (none_ : ∀ (q : Str) (cl : List (Str × Addr)) (pm cv ctv : Value), bindArgs (PySem.W.kla_fn "<lambda>" q params body scope cl pm cv ctv) ⟨[], []⟩ = pure [])
    (inner : ∀ (A : Around) (outer : List Env) (s : Shared) (H : Hp) (E : XK) (f c' : Addr), Room k (A.deeper (lamEnv X scope s.heap.objs.size f c')) → PE (lamCx X A outer s H E scope f c') body (t E))
    (nx : (x == ("__debug__" : Str)) = false := by decide) (nd : (a == ("__debug__" : Str)) = false := by decide) (nc : (a == ("__classdict__" : Str)) = false := by decide) :
    PE X (.Call (.Name x p) [.Lambda params body scope lpos] [] pos) (tLam T TT t) := by
  refine ⟨fun pins s σ H Q I red => ?_⟩
  obtain ⟨tabs, red⟩ := red
  refine wpAny_Call_Name_kw (ld_glob I glob is_ ?_ nx)
  refine PySem.W.callWith_K (h₀ := X.base) I.ok.mod.kin kept ?_ (by rfl) (by rfl)
  refine Calls.spliced_cons (lam_make2 (params := params) (body := body) (scope := scope) (pos := lpos) I TB mine inT one tabs nodef (L.has I.ok) ?_)
  intro f c' pm' ctv H1 s' I1 grown tabs1 lies new nofr isCode
  refine Calls.spliced_nil ⟨I1.kIn, ?_⟩
  have call_ : codeAny (model X.prog X.w) X.A (.call (.ref g) ⟨[.ref f], []⟩) (CR C8.CX0 X.stack X.prog X.w H1 s' Q C8.E0) s' := by
    refine run_ofS (N := Ng) (ps := [a]) (us := [.ref f]) (vs := [.ref f]) lk code Sg room I1.env0 (binds s' [.ref f] I1.kIn rfl) (.cons rfl .nil) rfl ?_
    intro room1
    obtain ⟨t1, ht, hq⟩ := gives f c' s' H1 Q (fun E H2 Q2 => t E σ H2 Q2)
      (fun W pn xe E p1 p2 tk => pe_actS (i := 0) I1 L lies new nofr (none_ _ _ _ _ _) tk room1 (fun A outer s H room2 => inner A outer s H E f c' room2) first vis nd nc) isCode (red H1 grown tabs1)
    exact ⟨t1, ht.nox, hq⟩
  refine wpAny_call (codeAny_mono call_ ?_)
  intro r s2 z
  cases r
  case error e => exact (show False from z).elim
  case ok fl =>
    cases fl
    case ret u => exact I1.after z
    all_goals exact False.elim z
end
end My

namespace My
open PySem PySem.Spec PyProof.Rows L2
local macro_rules | `(tactic| walk_at "side") => `(tactic| first | (dsimp only; omega) | exact ⟨by omega, by omega⟩ | exact Or.inl ⟨by omega, by omega⟩ | exact Or.inr ⟨by omega, by omega⟩ | decide)
local macro_rules | `(tactic| walk_at "sq") => `(tactic| first | assumption | exact SqL.of (by assumption) | exact SqT.of (by assumption) | (refine L2.Same.seq (by assumption) ?_; walk_at "sq") | (refine L2.Same.seqT (by assumption) ?_; walk_at "sq") | exact Or.inl (by walk_at "sq") | exact Or.inr (by walk_at "sq"))
local macro_rules | `(tactic| walk_at "1") => `(tactic| first
  | refine ⟨_, rfl, iteT ?_⟩
  | refine ⟨_, rfl, iteF ?_⟩
  | refine ⟨_, rfl, ?_⟩
  | refine ⟨_, _, rfl, rfl, (by walk_at "side"), ?_⟩
  | refine ⟨_, _, rfl, rfl, ?_⟩
  | refine ⟨_, _, _, _, true, rfl, .ty _, .base (.int _), kit_ty (a := "int") (by decide +kernel), ?_⟩
  | refine ⟨_, _, _, _, false, rfl, .ty _, .base (.int _), kit_ty (a := "int") (by decide +kernel), ?_⟩
  | refine ⟨_, _, rfl, (by walk_at "sq"), ?_⟩
  | refine ⟨_, _, _, _, rfl, rfl, (by walk_at "sq"), (by first | rfl | assumption), ?_⟩
  | refine Or.inl ⟨_, _, _, _, rfl, rfl, (by walk_at "sq"), (by first | rfl | assumption), ?_⟩
  | refine Or.inr (Or.inl ⟨_, _, _, _, rfl, rfl, (by walk_at "sq"), (by first | rfl | assumption), ?_⟩)
  | refine ⟨_, _, rfl, Or.inl ⟨(by walk_at "sq"), ?_⟩⟩
  | refine ⟨rfl, ?_⟩
  | refine iteT ?_
  | refine iteF ?_
  | refine ⟨_, _, _, _, _, rfl, (by assumption), (by assumption), (by assumption), (by assumption), ?_⟩
  | refine Or.inl ⟨_, rfl, ?_⟩
  | refine Or.inr ⟨_, rfl, ?_⟩
  | refine ⟨_, _, rfl, (by walk_at "side"), ?_⟩
  | refine ⟨_, _, rfl, ?_⟩)
local macro_rules | `(tactic| walk_at "fld") => `(tactic| skip)
local macro_rules | `(tactic| walk_at "s") => `(tactic| repeat walk_at "1")
local macro_rules | `(tactic| walk_at "size") => `(tactic| first | exact Nat.le_of_ble_eq_true rfl | (simp only [List.length_map, List.length_append, List.length_cons, List.length_nil]; omega))
local macro_rules | `(tactic| walk_at "new") => `(tactic| (first | refine ⟨(by walk_at "size"), fun p hp => ?_⟩ | refine fun p hp => ?_); (generalize hq : upd _ p _ = H1); (obtain ⟨s, e⟩ := new_facts hp hq); clear hq)
/-! how a lambda is heard -/
structure HeardT (K : PySem.W.Frag) (mg : Str → Option Value) (D W IR : Addr) : Prop where
  X : ExcC K D
  nw : PySem.W.findIn K (.ref D) "word" = some none
  te : PySem.W.exmOne K (.ref D) (.ref D) = some true
  gD : mg "InvalidTally" = some (.ref D)
  gW : mg "WaitError" = some (.ref W)
  gR : mg "InvalidRow" = some (.ref IR)
  kW : PySem.W.kitOne K (.ref D) (.ref W) = some true
  kR : PySem.W.kitOne K (.ref D) (.ref IR) = some false
/-- heard: the word of the error, or made -/
def TH (D : Addr) : (XK → Hp → VK → Prop) → Hp → VK → Prop := fun tl H Q =>
  tl (fun cls d H' => ∃ dx w, cls = .ref D ∧ d = some dx ∧ H' dx = some (.xd [("word", .str w)]) ∧ Q (.str w) H') H (fun _ H' => Q (.str "made") H')
/-- a reading asked for more -/
theorem pe_weak {X : Cx} {e : Expr} {t : TE} (h : PE X e t) : PE X e (fun σ H Q => ∃ R : VK, (∀ v H', R v H' → Q v H') ∧ t σ H R) := by
  refine ⟨fun pins s σ H Q I z => ?_⟩
  obtain ⟨R, m, q⟩ := z
  refine wpAny_mono (h.run pins s σ H R I q) (fun u s' y => ?_) fun _ _ y => y
  obtain ⟨v, H', J, r, q'⟩ := y
  exact ⟨v, H', J, r, m v H' q'⟩
section
variable {K : PySem.W.Frag} {D W IR : Addr}
abbrev s_law_heard : Stmt := topS 33
theorem sc_law_heard : FnScope ["work", "found", "e"] ["work"] (defScope s_law_heard) := ⟨rfl, rfl, rfl, by decide +kernel, rfl, by decide +kernel, by decide +kernel⟩
set_option maxHeartbeats 8000000 in
theorem heard_gives {X : Cx} {g : Addr} {cdg : Value} {q : Str} (T : Txt X.mg) (Z : HeardT X.K X.mg D W IR) : GivesS X ["work", "found", "e"] "_law_heard" (defScope s_law_heard) g cdg (defBody s_law_heard) "work" q (TH D) := by
  intro f c' s H Q tl act hc h
  refine ⟨_, (pss_cons (ps_set (i := 1) sc_law_heard.nd rfl (Or.inl rfl) pe_str)
      (pss_cons (ps_try_as (i := 2) (tb := fun W' D' σ H => ∃ (Ech : XK) (R : VK), (∀ cls d H', Ech cls d H' → W' cls d σ H') ∧ (∀ v H', R v H' → D'.nx σ H') ∧ σ[0]? = some (some (.ref f)) ∧ H c' = some (LamX.CodeO c' q) ∧ tl Ech H R) (ts := _) (Wout := fun _ _ _ _ => False) rfl rfl sc_law_heard.nd rfl rfl ⟨rfl, by decide, Or.inl Z.gD⟩ LamX.takes0
          (fun W' pn xe tk _ => ?_)
          (fun a oe cls d pn hz hf => pss_one (ps_set (i := 1) sc_law_heard.nd rfl (Or.inl rfl) (by exact (pe_ifExp
            (PW.pt (pw_and (pt_val (pe_callB (call_isD hz hf) (by rfl) T.isinstance (by decide +kernel) (pa_cons (pv 2) (pa_cons (pe_glob (v := .ref W) (by rfl) Z.gW rfl) pa_nil))))
              (pw_and1 (pt_not (pt_val (pe_callB (call_isD hz hf) (by rfl) T.isinstance (by decide +kernel) (pa_cons (pv 2) (pa_cons (pe_glob (v := .ref IR) (by rfl) Z.gR rfl) pa_nil))))))))
            (pe_xf ⟨Z.X.hg, Z.X.hk, Z.X.hs, Z.X.hd⟩ Z.nw hz hf (pv 2)) pe_str)))))
      (pss_one (ps_ret (pv 1))))), ?_⟩
  · refine ⟨fun pins s' σ H' D' I h' => ?_⟩
    obtain ⟨Ech, R, hW, hR, h1, h2, h3⟩ := h'
    exact (pss_one (ps_expr (pe_weak (act W' pn xe Ech _ _ tk)))).run pins s' σ H' D' I ⟨R, hR, h1, h2, hW, h3⟩
  · refine ⟨fun cls d H' => ∃ dx w, cls = .ref D ∧ d = some dx ∧ H' dx = some (.xd [("word", .str w)]) ∧ Q (.str w) H', fun _ H' => Q (.str "made") H', ?_, fun v H' q => ⟨_, rfl, q⟩, rfl, hc, h⟩
    rintro cls d H' ⟨dx, w, rfl, rfl, ed, q⟩
    refine ⟨true, Z.te, fun _ a0 _ => ?_, fun z => nomatch z⟩
    refine ⟨_, rfl, ?_⟩
    refine ⟨D, dx, _, _, _, true, rfl, rfl, Z.X, ed, rfl, .own W, Z.kW, ?_⟩
    refine ⟨_, rfl, iteT ?_⟩
    refine ⟨_, rfl, ?_⟩
    refine ⟨D, dx, _, _, _, false, rfl, rfl, Z.X, ed, rfl, .own IR, Z.kR, ?_⟩
    refine ⟨_, rfl, iteT ?_⟩
    refine ⟨_, rfl, ?_⟩
    refine ⟨rfl, rfl, dx, _, _, rfl, ed, rfl, ?_⟩
    exact ⟨_, rfl, q⟩
end
end My

namespace My
open PySem PySem.Spec PyProof.Rows L2
/-! data that is made -/
/-- from (G0, H0) to (G, H): what stands still grows from G0 to G; draws are taken from the box b -/
structure Go (b : Addr) (G0 H0 G H : Hp) : Prop where
  gs : Same G0 G
  gh : Same G H
  bx : Bx b H0 H
  box : BoxAt H b
  gb : G b = none
  new : ∀ c o, H0 c = some o → G0 c = none → G c = none
section
variable {b p c : Addr} {G0 H0 G H G1 H1 G2 H2 H' : Hp} {o : HO}
theorem Go.refl (gh : Same G H) (box : BoxAt H b) (gb : G b = none) : Go b G H G H := ⟨Same.refl _, gh, Bx.of (Same.refl _), box, gb, fun _ _ _ n => n⟩
theorem Go.trans (x : Go b G0 H0 G1 H1) (y : Go b G1 H1 G2 H2) : Go b G0 H0 G2 H2 := ⟨x.gs.trans y.gs, y.gh, x.bx.trans y.bx, y.box, y.gb, fun c o e n => by
  by_cases q : c = b
  · rw [q]
    exact y.gb
  · exact y.new c o (x.bx c o q e) (x.new c o e n)⟩
theorem Go.take (x : Go b G0 H0 G H) (s : Bx b H H') (box : BoxAt H' b) : Go b G0 H0 G H' := ⟨x.gs, fun c o e => s c o (fun q => by
  rw [q, x.gb] at e
  cases e) (x.gh c o e), x.bx.trans s, box, x.gb, x.new⟩
theorem Go.same (x : Go b G0 H0 G H) (s : Same H H') : Go b G0 H0 G H' := x.take (Bx.of s) (x.box.same s)
theorem Bx.back (x : Bx b H0 H) (box : BoxAt H b) (n : H p = none) : H0 p = none := by
  cases q : H0 p with
  | none => rfl
  | some o =>
    by_cases e : p = b
    · obtain ⟨_, _, _, _, e2⟩ := box
      rw [e, e2] at n
      cases n
    · rw [x p o e q] at n
      cases n
theorem Go.free0 (x : Go b G0 H0 G H) (n : H p = none) : H0 p = none := x.bx.back x.box n
theorem Go.freeG (x : Go b G0 H0 G H) (n : H p = none) : G p = none := x.gh.free n
theorem Go.ne (x : Go b G0 H0 G H) (n : H p = none) : p ≠ b := x.box.ne n
theorem same_upd2 (s : Same G H) (n : H p = none) : Same (upd G p o) (upd H p o) := fun c x e => by
  by_cases q : c = p
  · rw [q, upd_same] at e ⊢
    exact e
  · rw [upd_ne q] at e ⊢
    exact s _ _ e
theorem Go.lay (x : Go b G0 H0 G H) (n : H p = none) : Go b G0 H0 (upd G p o) (upd H p o) :=
  ⟨x.gs.trans (same_upd (x.freeG n)), same_upd2 x.gh n, x.bx.trans (Bx.of (same_upd n)), x.box.same (same_upd n), by rw [upd_ne (x.ne n).symm]; exact x.gb, fun c o' e q => by
    rw [upd_ne (ne_of_none e (x.free0 n))]
    exact x.new c o' e q⟩
theorem Go.change (x : Go b G0 H0 G H) (n0 : H0 p = none) (nG : G p = none) (ne : p ≠ b) : Go b G0 H0 G (upd H p o) :=
  ⟨x.gs, fun c o' e => by
    rw [upd_ne (ne_of_none e nG)]
    exact x.gh c o' e, fun c o' n e => by
    rw [upd_ne (ne_of_none e n0)]
    exact x.bx c o' n e, by
    obtain ⟨i, j, k, h0, h1⟩ := x.box
    exact ⟨i, j, k, h0, by rw [upd_ne ne.symm]; exact h1⟩, x.gb, x.new⟩
theorem Go.freeze (x : Go b G0 H0 G H) (n0 : H0 p = none) (e : H p = some o) (nG : G p = none) (ne : p ≠ b) : Go b G0 H0 (upd G p o) H :=
  ⟨x.gs.trans (same_upd nG), fun c o' q => by
    by_cases w : c = p
    · rw [w, upd_same] at q
      cases q
      rw [w]
      exact e
    · rw [upd_ne w] at q
      exact x.gh c o' q, x.bx, x.box, by rw [upd_ne ne.symm]; exact x.gb, fun c o' q w => by
    rw [upd_ne (ne_of_none q n0)]
    exact x.new c o' q w⟩
theorem Go.laid (x : Go b G0 H0 G H) (n : H p = none) (hq : upd H p o = H') : ∃ G', Go b G0 H0 G' H' ∧ Same G G' ∧ Same H H' ∧ G' p = some o ∧ ∀ c, G c = none → c ≠ p → G' c = none := by
  subst hq
  exact ⟨upd G p o, x.lay n, same_upd (x.freeG n), same_upd n, upd_same, fun c h ne => by rw [upd_ne ne]; exact h⟩
end
/-- from (G, H) to (G', H') by what is made alone -/
structure Gr (G H G' H' : Hp) : Prop where
  gs : Same G G'
  hs : Same H H'
  gh : Same G' H'
  nn : ∀ c o, H c = some o → G c = none → G' c = none
section
variable {G H G1 H1 G2 H2 G0 H0 : Hp} {b p : Addr} {o : HO}
theorem Gr.refl (s : Same G H) : Gr G H G H := ⟨Same.refl _, Same.refl _, s, fun _ _ _ n => n⟩
theorem Gr.trans (x : Gr G H G1 H1) (y : Gr G1 H1 G2 H2) : Gr G H G2 H2 := ⟨x.gs.trans y.gs, x.hs.trans y.hs, y.gh, fun c o e n => y.nn c o (x.hs _ _ e) (x.nn c o e n)⟩
theorem Gr.lay (s : Same G H) (n : H p = none) : Gr G H (upd G p o) (upd H p o) := ⟨same_upd (s.free n), same_upd n, same_upd2 s n, fun c o' e q => by rw [upd_ne (ne_of_none e n)]; exact q⟩
theorem Gr.hold (s : Same G H) (n : H p = none) : Gr G H G (upd H p o) := ⟨Same.refl _, same_upd n, s.trans (same_upd n), fun c o' e q => q⟩
theorem Gr.same (s : Same G H) (t : Same H H1) : Gr G H G H1 := ⟨Same.refl _, t, s.trans t, fun c o' e q => q⟩
theorem Go.gr (g : Go b G0 H0 G H) (x : Gr G H G1 H1) : Go b G0 H0 G1 H1 := g.trans ⟨x.gs, x.gh, Bx.of x.hs, g.box.same x.hs, by
  obtain ⟨_, _, _, _, e⟩ := g.box
  exact x.nn _ _ e g.gb, x.nn⟩
end
def MkD (t : TE) (σ : L2.St) (G : Hp) (d : PyData) : Prop := ∀ (G1 H1 : Hp) (Q : VK), Same G G1 → Same G1 H1 → (∀ v G2 H2, Gr G1 H1 G2 H2 → Dv G2 v d → Q v H2) → t σ H1 Q
def MkA (t : TA) (σ : L2.St) (G : Hp) (ds : List PyData) : Prop := ∀ (G1 H1 : Hp) (Q : List V → Hp → Prop), Same G G1 → Same G1 H1 → (∀ vs G2 H2, Gr G1 H1 G2 H2 → DvAll G2 vs ds → Q vs H2) → t σ H1 Q
def MkL (t : TE) (σ : L2.St) (G : Hp) (ds : List PyData) : Prop := ∀ (G1 H1 : Hp) (Q : VK), Same G G1 → Same G1 H1 → (∀ p vs G2 H2, Gr G1 H1 G2 H2 → H1 p = none → G2 p = none → H2 p = some (.lst vs) → DvAll G2 vs ds → Q (.ref p) H2) → t σ H1 Q
theorem sz2000 {n : Nat} (h : n ≤ 4000) : n ≤ sizeLine := Nat.le_trans h (by decide)
section
variable {K : PySem.W.Frag} {σ : L2.St} {G : Hp} {d e : PyData} {ds es : List PyData} {ta tb te ti th : TE} {tr : TA} {v : V} {i n : Nat}
theorem MkD.mono {G' : Hp} (h : MkD ta σ G d) (s : Same G G') : MkD ta σ G' d := fun G1 H1 Q s1 s2 k => h G1 H1 Q (s.trans s1) s2 k
theorem MkA.mono {G' : Hp} {ta : TA} (h : MkA ta σ G ds) (s : Same G G') : MkA ta σ G' ds := fun G1 H1 Q s1 s2 k => h G1 H1 Q (s.trans s1) s2 k
theorem MkD.c (h : Dv G v d) : MkD (tC v) σ G d := fun G1 H1 Q s1 s2 k => k v G1 H1 (Gr.refl s2) (h.same s1)
theorem MkD.int (i : Int) : MkD (tC (.int i)) σ G (.int i) := .c (.int i)
theorem MkD.non : MkD (tC .non) σ G .none := .c .non
theorem MkD.bl (b : Bool) : MkD (tC (.bl b)) σ G (.bool b) := .c (.bl b)
theorem MkD.str {x : Str} (h : okS x = true) : MkD (tC (.str x)) σ G (.str x) := .c (.str h)
theorem MkD.var (hv : σ[i]? = some (some v)) (h : Dv G v d) : MkD (tVar i) σ G d := fun G1 H1 Q s1 s2 k => ⟨v, hv, k v G1 H1 (Gr.refl s2) (h.same s1)⟩
theorem MkA.nil : MkA tNil σ G [] := fun G1 H1 Q s1 s2 k => k [] G1 H1 (Gr.refl s2) .nil
theorem MkA.cons (h : MkD ta σ G d) (t : MkA tr σ G ds) : MkA (tCons ta tr) σ G (d :: ds) := fun G1 H1 Q s1 s2 k =>
  h G1 H1 _ s1 s2 fun x G2 H2 g2 dx => t G2 H2 _ (s1.trans g2.gs) g2.gh fun vs G3 H3 g3 dvs => k (x :: vs) G3 H3 (g2.trans g3) (.cons (dx.same g3.gs) dvs)
theorem MkD.tup (h : MkA tr σ G ds) (l : ds.length ≤ 2000) : MkD (tTup tr) σ G (.tuple ds) := fun G1 H1 Q s1 s2 k =>
  h G1 H1 _ s1 s2 fun vs G2 H2 g2 dvs => ⟨sz2000 (by rw [dvs.len]; omega), fun p np => k (.ref p) _ _ (g2.trans (Gr.lay g2.gh np)) (.tup upd_same (dvs.same (same_upd (g2.gh.free np))) l)⟩
theorem MkL.lst (h : MkA tr σ G ds) (l : ds.length ≤ 2000) : MkL (tLst tr) σ G ds := fun G1 H1 Q s1 s2 k =>
  h G1 H1 _ s1 s2 fun vs G2 H2 g2 dvs => ⟨sz2000 (by rw [dvs.len]; omega), fun p np => k p vs G2 _ (g2.trans (Gr.hold g2.gh np)) (g2.hs.free np) (g2.gh.free np) upd_same dvs⟩
theorem MkL.dat (h : MkL ta σ G ds) (l : ds.length ≤ 2000) : MkD ta σ G (.list ds) := fun G1 H1 Q s1 s2 k =>
  h G1 H1 _ s1 s2 fun p vs G2 H2 g2 n1 np e dvs => k (.ref p) (upd G2 p (.lst vs)) H2 ⟨g2.gs.trans (same_upd np), g2.hs, fun c o q => by
    by_cases w : c = p
    · rw [w, upd_same] at q
      rw [w, e]
      exact q
    · rw [upd_ne w] at q
      exact g2.gh _ _ q, fun c o q w => by
    rw [upd_ne (ne_of_none q n1)]
    exact g2.nn c o q w⟩ (.lst upd_same (dvs.same (same_upd np)) l)
theorem MkD.lst (h : MkA tr σ G ds) (l : ds.length ≤ 2000) : MkD (tLst tr) σ G (.list ds) := (MkL.lst h l).dat l
theorem MkL.cat (h : MkD ta σ G (.list ds)) (g : MkD tb σ G (.list es)) (l : ds.length + es.length ≤ 4000) : MkL (tOp rCat ta tb) σ G (ds ++ es) := fun G1 H1 Q s1 s2 k =>
  h G1 H1 _ s1 s2 fun x G2 H2 g2 dx => g G2 H2 _ (s1.trans g2.gs) g2.gh fun y G3 H3 g3 dy => by
    have dx := dx.same g3.gs
    cases dx with
    | @lst a xs _ e1 h1 _ =>
      cases dy with
      | @lst a2 ys _ e2 h2 _ =>
        exact ⟨a, a2, xs, ys, rfl, rfl, g3.gh _ _ e1, g3.gh _ _ e2, sz2000 (by rw [h1.len, h2.len]; exact l), fun p np => k p _ G3 _ ((g2.trans g3).trans (Gr.hold g3.gh np)) ((g2.hs.trans g3.hs).free np) (g3.gh.free np) upd_same (h1.app h2)⟩
theorem MkD.ix (h : MkD te σ G (.list ds)) (g : MkD ti σ G (.int (n : Nat))) (e : ds[n]? = some d) : MkD (tOp (rIxL K) te ti) σ G d := fun G1 H1 Q s1 s2 k =>
  h G1 H1 _ s1 s2 fun x G2 H2 g2 dx => g G2 H2 _ (s1.trans g2.gs) g2.gh fun y G3 H3 g3 dy => by
    have dx := dx.same g3.gs
    cases dy
    cases dx with
    | @lst a xs _ e1 h1 _ =>
      obtain ⟨z, hz, dz⟩ := h1.at e
      exact ⟨a, xs, _, z, rfl, rfl, SqL.of (g3.gh _ _ e1), atI_nat hz, k z G3 H3 (g2.trans g3) dz⟩
theorem MkD.ixT (h : MkD te σ G (.tuple ds)) (g : MkD ti σ G (.int (n : Nat))) (e : ds[n]? = some d) : MkD (tOp (rIxT K) te ti) σ G d := fun G1 H1 Q s1 s2 k =>
  h G1 H1 _ s1 s2 fun x G2 H2 g2 dx => g G2 H2 _ (s1.trans g2.gs) g2.gh fun y G3 H3 g3 dy => by
    have dx := dx.same g3.gs
    cases dy
    cases dx with
    | @tup a xs _ e1 h1 _ =>
      obtain ⟨z, hz, dz⟩ := h1.at e
      exact ⟨a, xs, _, z, rfl, rfl, SqT.of (g3.gh _ _ e1), atI_nat hz, k z G3 H3 (g2.trans g3) dz⟩
/-- a if xs != [] else b -/
theorem MkD.neg {i : Int} (h : MkD ta σ G (.int i)) : MkD (tUn (rU fun i => .int (-i)) ta) σ G (.int (-i)) := fun G1 H1 Q s1 s2 k =>
  h G1 H1 _ s1 s2 fun x G2 H2 g2 dx => by
    cases dx
    exact ⟨i, rfl, k _ G2 H2 g2 (.int _)⟩
theorem MkD.add {i j : Int} (h : MkD ta σ G (.int i)) (g : MkD tb σ G (.int j)) : MkD (tOp (rI0 fun i j => .int (i + j)) ta tb) σ G (.int (i + j)) := fun G1 H1 Q s1 s2 k =>
  h G1 H1 _ s1 s2 fun x G2 H2 g2 dx => g G2 H2 _ (s1.trans g2.gs) g2.gh fun y G3 H3 g3 dy => by
    cases dx
    cases dy
    exact ⟨i, j, rfl, rfl, k _ G3 H3 (g2.trans g3) (.int _)⟩
theorem MkD.sub {i j : Int} (h : MkD ta σ G (.int i)) (g : MkD tb σ G (.int j)) : MkD (tOp (rI0 fun i j => .int (i - j)) ta tb) σ G (.int (i - j)) := fun G1 H1 Q s1 s2 k =>
  h G1 H1 _ s1 s2 fun x G2 H2 g2 dx => g G2 H2 _ (s1.trans g2.gs) g2.gh fun y G3 H3 g3 dy => by
    cases dx
    cases dy
    exact ⟨i, j, rfl, rfl, k _ G3 H3 (g2.trans g3) (.int _)⟩
theorem st_set {te : TE} {σ : L2.St} {H : Hp} {D : Ends} {i : Nat} {u : TS} (h : te σ H fun x H1 => u D (σ.set i (some x)) H1) : tSeq (tAsg te (gName i)) u D σ H := h
theorem st_ret {te : TE} {σ : L2.St} {H : Hp} {D : Ends} (h : te σ H D.rt) : tRet te D σ H := h
theorem st_drop {te : TE} {σ : L2.St} {H : Hp} {D : Ends} (h : te σ H fun _ H1 => D.nx σ H1) : tDrop te D σ H := h
theorem st_seq {t u : TS} {σ : L2.St} {H : Hp} {D : Ends} (h : t { D with nx := u D } σ H) : tSeq t u D σ H := h
theorem st_op {r : R2} {ta tb : TE} {σ : L2.St} {H : Hp} {Q : VK} (h : ta σ H fun x H1 => tb σ H1 fun y H2 => r x y H2 Q) : tOp r ta tb σ H Q := h
theorem st_bm {K : PySem.W.Frag} {T : String} {r : V → List V → Hp → VK → Prop} {to : TE} {t : TA} {σ : L2.St} {H : Hp} {Q : VK} (h : to σ H fun x H1 => tyV K T x H1 ∧ t σ H1 fun xs H2 => r x xs H2 Q) : tBM K T r to t σ H Q := h
theorem st_set1 {te : TE} {σ : L2.St} {H : Hp} {D : Ends} {i : Nat} (h : te σ H fun x H1 => D.nx (σ.set i (some x)) H1) : tAsg te (gName i) D σ H := h
end
end My

namespace My
open PySem PySem.Spec PyProof.Rows L2
local macro_rules | `(tactic| walk_at "side") => `(tactic| first | (dsimp only; omega) | exact ⟨by omega, by omega⟩ | exact Or.inl ⟨by omega, by omega⟩ | exact Or.inr ⟨by omega, by omega⟩ | decide)
local macro_rules | `(tactic| walk_at "sq") => `(tactic| first | assumption | exact SqL.of (by assumption) | exact SqT.of (by assumption) | (refine L2.Same.seq (by assumption) ?_; walk_at "sq") | (refine L2.Same.seqT (by assumption) ?_; walk_at "sq") | exact Or.inl (by walk_at "sq") | exact Or.inr (by walk_at "sq"))
local macro_rules | `(tactic| walk_at "1") => `(tactic| first
  | refine ⟨_, rfl, iteT ?_⟩
  | refine ⟨_, rfl, iteF ?_⟩
  | refine ⟨_, rfl, ?_⟩
  | refine ⟨_, _, rfl, rfl, (by walk_at "side"), ?_⟩
  | refine ⟨_, _, rfl, rfl, ?_⟩
  | refine ⟨_, _, _, _, true, rfl, .ty _, .base (.int _), kit_ty (a := "int") (by decide +kernel), ?_⟩
  | refine ⟨_, _, _, _, false, rfl, .ty _, .base (.int _), kit_ty (a := "int") (by decide +kernel), ?_⟩
  | refine ⟨_, _, rfl, (by walk_at "sq"), ?_⟩
  | refine ⟨_, _, _, _, rfl, rfl, (by walk_at "sq"), (by first | rfl | assumption), ?_⟩
  | refine Or.inl ⟨_, _, _, _, rfl, rfl, (by walk_at "sq"), (by first | rfl | assumption), ?_⟩
  | refine Or.inr (Or.inl ⟨_, _, _, _, rfl, rfl, (by walk_at "sq"), (by first | rfl | assumption), ?_⟩)
  | refine ⟨_, _, rfl, Or.inl ⟨(by walk_at "sq"), ?_⟩⟩
  | refine ⟨rfl, ?_⟩
  | refine iteT ?_
  | refine iteF ?_
  | refine ⟨_, _, _, _, _, rfl, (by assumption), (by assumption), (by assumption), (by assumption), ?_⟩
  | refine Or.inl ⟨_, rfl, ?_⟩
  | refine Or.inr ⟨_, rfl, ?_⟩
  | refine ⟨_, _, rfl, (by walk_at "side"), ?_⟩
  | refine ⟨_, _, rfl, ?_⟩)
local macro_rules | `(tactic| walk_at "fld") => `(tactic| skip)
local macro_rules | `(tactic| walk_at "s") => `(tactic| repeat walk_at "1")
local macro_rules | `(tactic| walk_at "size") => `(tactic| first | exact Nat.le_of_ble_eq_true rfl | (simp only [List.length_map, List.length_append, List.length_cons, List.length_nil]; omega))
local macro_rules | `(tactic| walk_at "new") => `(tactic| (first | refine ⟨(by walk_at "size"), fun p hp => ?_⟩ | refine fun p hp => ?_); (generalize hq : upd _ p _ = H1); (obtain ⟨s, e⟩ := new_facts hp hq); clear hq)
/-! wrong arguments -/
def i1 (i : Int) : PyData := .int i
def p2 (i j : Int) : PyData := .tuple [.int i, .int j]
def deepD : PyData := .list [.list [.list [.list [.list [.list [.list [.list [.int 1]]]]]]]]
def menuU : List PyData := [.int (0 - 1), .bool true, .str "1", .tuple [.int 1], .list [.int 1], deepD]
def menuF1 : List PyData := [.none, .str "x", .int 3, .list [.tuple [.int 0]], .list [.list [.int 0, .int 2]], .list [.tuple [.str "0", .int 2]], .list [.tuple [.int 0, .bool true]], .list [.tuple [.int 0, .int 2, .int 3]], .list [p2 0 1], .list [p2 0 2, p2 0 3], deepD]
def menuF2 : List PyData := [.list [p2 1 3, p2 0 4], .list [p2 0 2, p2 1 2], .list [.tuple [.int 0, .none], p2 1 3], .list [.tuple [.none, .int 2]], .bool true, .list [.tuple [.bool true, .int 2]]]
def menuA : List PyData := [.none, .int 3, .list [], .list [p2 0 4], .list [p2 3 2], .list [p2 3 4, .tuple [.int 5, .none]], .list [p2 3 4, p2 3 5], .list [p2 5 7, p2 3 4], .list [.list [.int 3, .int 4]], .str "ab"]
def menuT : List PyData := [.int 0, .int 1, .int 2, .int (0 - 3), .bool true, .none, .str "3", deepD]
def menuM : List PyData := [.int 0, .int 3, .int (0 - 1), .none, .bool true, .str "5", deepD]
def menus : List (List PyData) := [menuU, menuF1 ++ menuF2, menuA, menuT, menuM]
def givenD : List PyData := [.int 1, .list [p2 0 2], .list [p2 3 4, p2 5 7], .int 3, .int 5]
def wordsT : List Str := [wU, wF, wA, wT, wM]
theorem wrong0 : ∀ d ∈ menuU, ∀ d1 d2 d3 d4, wordT d d1 d2 d3 d4 = some wU := by
  intro d hd d1 d2 d3 d4
  have h : (isNonD d || isNumD d) = false := by
    revert d
    decide
  unfold wordT
  rw [if_neg (by rw [h]; exact Bool.false_ne_true)]
theorem wrong1 : ∀ d ∈ menuF1 ++ menuF2, ∀ d2 d3 d4, wordT (.int 1) d d2 d3 d4 = some wF := by
  intro d hd d2 d3 d4
  have h : (isSeqD d && (itemsD d).all isFD) = false ∨ riseF (none, some 1) ((itemsD d).map stO) = false := by
    revert d
    decide
  unfold wordT
  rw [if_pos (show (isNonD (PyData.int 1) || isNumD (PyData.int 1)) = true from rfl)]
  rcases h with h | h
  · rw [if_neg (by rw [h]; exact Bool.false_ne_true)]
  · by_cases c : (isSeqD d && (itemsD d).all isFD) = true
    · rw [if_pos c, if_neg (by rw [show cO (.int 1) = some 1 from rfl, h]; exact Bool.false_ne_true)]
    · rw [if_neg c]
theorem wrong2 : ∀ d ∈ menuA, ∀ d3 d4, wordT (.int 1) (.list [p2 0 2]) d d3 d4 = some wA := by
  intro d hd d3 d4
  show wordA (.int 1) [(0, some 2)] d d3 d4 = some wA
  have h : (isSeqD d && (itemsD d).all isStepD) = false ∨ (itemsD d).map stO = [] ∨ riseF (some 0, some 2) ((itemsD d).map stO) = false := by
    revert d
    decide
  unfold wordA
  by_cases c : (isSeqD d && (itemsD d).all isStepD) = true
  · rw [if_pos c]
    rcases h with h | h | h
    · rw [h] at c
      cases c
    · rw [h]
      rfl
    · unfold wordR
      show (match ((itemsD d).map stO).head?, ((itemsD d).map stO).getLast? with | some x, some y => _ | _, _ => some wA) = some wA
      split
      · rw [if_neg (by rw [show (List.getLast? [((0 : Int), some (2 : Int))]).map prO = some (some 0, some 2) from rfl]; rw [show ((some (some (0 : Int), some (2 : Int))).getD (none, cO (.int 1))) = (some 0, some 2) from rfl, h]; exact Bool.false_ne_true)]
      · rfl
  · rw [if_neg c]
theorem wrong3 : ∀ d ∈ menuT, ∀ d4, wordT (.int 1) (.list [p2 0 2]) (.list [p2 3 4, p2 5 7]) d d4 = some wT := by
  intro d hd d4
  show (if (isNumD d && decide ((5 : Int) - 3 < intD d)) = true then _ else some wT) = some wT
  have h : (isNumD d && decide ((5 : Int) - 3 < intD d)) = false := by
    revert d
    decide
  rw [if_neg (by rw [h]; exact Bool.false_ne_true)]
theorem wrong4 : ∀ d ∈ menuM, wordT (.int 1) (.list [p2 0 2]) (.list [p2 3 4, p2 5 7]) (.int 3) d = some wM := by
  decide

/-- what is drawn for the place n -/
def WrongR (n : Nat) (ds : List PyData) : Prop := ∃ d0 d1 d2 d3 d4 w, ds = [d0, d1, d2, d3, d4] ∧ wordsT[n]? = some w ∧ wordT d0 d1 d2 d3 d4 = some w
/-- after so many places: those ahead of n as given, n from the menu, those behind it anything -/
structure Part (n : Nat) (ds : List PyData) : Prop where
  len : ds.length = 5
  lo : ∀ i, i < n → ds[i]? = givenD[i]?
  at_ : ∃ m d, menus[n]? = some m ∧ ds[n]? = some d ∧ d ∈ m
theorem five {α : Type} {xs : List α} (h : xs.length = 5) : ∃ a b c d e, xs = [a, b, c, d, e] := by
  match xs, h with
  | [a, b, c, d, e], _ => exact ⟨a, b, c, d, e, rfl⟩
theorem Part.wrong {n : Nat} {ds : List PyData} (hn : n < 5) (P : Part n ds) : WrongR n ds := by
  obtain ⟨d0, d1, d2, d3, d4, rfl⟩ := five P.len
  obtain ⟨m, d, hm, hd, hdm⟩ := P.at_
  have lo := P.lo
  match n, hn with
  | 0, _ =>
    cases hm
    cases hd
    exact ⟨_, _, _, _, _, wU, rfl, rfl, wrong0 _ hdm _ _ _ _⟩
  | 1, _ =>
    cases hm
    cases hd
    have e0 : d0 = .int 1 := Option.some.inj (lo 0 (by decide))
    subst e0
    exact ⟨_, _, _, _, _, wF, rfl, rfl, wrong1 _ hdm _ _ _⟩
  | 2, _ =>
    cases hm
    cases hd
    have e0 : d0 = .int 1 := Option.some.inj (lo 0 (by decide))
    have e1 : d1 = .list [p2 0 2] := Option.some.inj (lo 1 (by decide))
    subst e0 e1
    exact ⟨_, _, _, _, _, wA, rfl, rfl, wrong2 _ hdm _ _⟩
  | 3, _ =>
    cases hm
    cases hd
    have e0 : d0 = .int 1 := Option.some.inj (lo 0 (by decide))
    have e1 : d1 = .list [p2 0 2] := Option.some.inj (lo 1 (by decide))
    have e2 : d2 = .list [p2 3 4, p2 5 7] := Option.some.inj (lo 2 (by decide))
    subst e0 e1 e2
    exact ⟨_, _, _, _, _, wT, rfl, rfl, wrong3 _ hdm _⟩
  | 4, _ =>
    cases hm
    cases hd
    have e0 : d0 = .int 1 := Option.some.inj (lo 0 (by decide))
    have e1 : d1 = .list [p2 0 2] := Option.some.inj (lo 1 (by decide))
    have e2 : d2 = .list [p2 3 4, p2 5 7] := Option.some.inj (lo 2 (by decide))
    have e3 : d3 = .int 3 := Option.some.inj (lo 3 (by decide))
    subst e0 e1 e2 e3
    exact ⟨_, _, _, _, _, wM, rfl, rfl, wrong4 _ hdm⟩
theorem Part.put {n k : Nat} {ds : List PyData} {d : PyData} (P : Part n ds) (h : n < k) (hk : k < 5) : Part n (ds.set k d) := by
  obtain ⟨m, d', hm, hd, hdm⟩ := P.at_
  refine ⟨by rw [List.length_set, P.len], fun i hi => ?_, m, d', hm, ?_, hdm⟩
  · rw [List.getElem?_set_ne (by omega)]
    exact P.lo i hi
  · rw [List.getElem?_set_ne (by omega)]
    exact hd
theorem ixN_nat {n i : Nat} (h : i < n) : ixN n (i : Int) = some i := by
  unfold ixN
  rw [if_pos (Int.natCast_nonneg i), if_pos (by omega)]
  rfl
theorem dvSet {H : Hp} : ∀ {xs : List V} {ds : List PyData} {x : V} {d : PyData}, DvAll H xs ds → Dv H x d → ∀ k, DvAll H (xs.set k x) (ds.set k d)
  | _, [], x, d, h, _, k => by
    rw [h.inv0]
    exact .nil
  | _, e :: ds, x, d, h, hx, 0 => by
    obtain ⟨y, ys, rfl, h1, h2⟩ := h.inv
    exact .cons hx h2
  | _, e :: ds, x, d, h, hx, k + 1 => by
    obtain ⟨y, ys, rfl, h1, h2⟩ := h.inv
    exact .cons h1 (dvSet h2 hx k)
theorem st_par {i j : Nat} {ta : TA} {D : Ends} {σ : L2.St} {H : Hp} (h : ta σ H fun vs H1 => ∃ v w, vs = [v, w] ∧ D.nx ((σ.set i (some v)).set j (some w)) H1) : tPar i j ta D σ H := h
theorem st_cons {te : TE} {tr : TA} {σ : L2.St} {H : Hp} {Q : List V → Hp → Prop} (h : te σ H fun x H1 => tr σ H1 fun ys H2 => Q (x :: ys) H2) : tCons te tr σ H Q := h
def spWrong : Sp := fun vs H Q _ => ∃ b : Addr, vs = [.ref b] ∧ BoxAt H b ∧ ∀ H' r g ws ds n w, n < 5 → WrongR n ds → wordsT[n]? = some w → Bx b H H' → BoxAt H' b → H' r = some (.tup [.ref g, .str w]) → H' g = some (.lst ws) → DvAll (off b H') ws ds → Q (.ref r) H'
section
variable {P : Program} {w : World} {K : PySem.W.Frag} {mg : Str → Option Value} {base : Heap}
abbrev s_law_wrong : Stmt := topS 37
theorem sc_law_wrong : FnScope ["box", "deep", "under", "first", "again", "turn", "more", "given", "some", "at", "later"] ["box"] (defScope s_law_wrong) := ⟨rfl, rfl, rfl, by decide +kernel, rfl, by decide +kernel, by decide +kernel⟩
set_option maxHeartbeats 16000000 in
theorem ok_wrongL (D : Df K mg "_law_wrong" s_law_wrong ["box"]) (T : Txt mg) (o_law_take : Own P w K mg base "_law_take" 1 ["box", "many"] spTake) (o_law_pick : Own P w K mg base "_law_pick" 2 ["box", "some"] spPick) : Own P w K mg base "_law_wrong" 3 ["box"] spWrong := by
  refine D.own sc_law_wrong (fun vs H Q E h => ?_) (fun fa cdv A outer s H vs Q E hr h => ?_)
  · obtain ⟨_, rfl, _⟩ := h
    rfl
  · obtain ⟨b, rfl, hb, k⟩ := h
    refine ⟨_, (pss_cons (ps_set (i := 1) sc_law_wrong.nd rfl (Or.inl rfl) (pe_lst (pa_cons (pe_lst (pa_cons (pe_lst (pa_cons (pe_lst (pa_cons (pe_lst (pa_cons (pe_lst (pa_cons (pe_lst (pa_cons (pe_lst (pa_cons pe_int pa_nil)) pa_nil)) pa_nil)) pa_nil)) pa_nil)) pa_nil)) pa_nil)) pa_nil)))
  (pss_cons (ps_set (i := 2) sc_law_wrong.nd rfl (Or.inl rfl) (pe_lst (pa_cons (pe_op op_sub pe_int pe_int) (pa_cons pe_bl (pa_cons pe_str (pa_cons (pe_tup (pa_cons pe_int pa_nil)) (pa_cons (pe_lst (pa_cons pe_int pa_nil)) (pa_cons (pv 1) pa_nil))))))))
  (pss_cons (ps_set (i := 3) sc_law_wrong.nd rfl (Or.inl rfl) (pe_lst (pa_cons pe_non (pa_cons pe_str (pa_cons pe_int (pa_cons (pe_lst (pa_cons (pe_tup (pa_cons pe_int pa_nil)) pa_nil)) (pa_cons (pe_lst (pa_cons (pe_lst (pa_cons pe_int (pa_cons pe_int pa_nil))) pa_nil)) (pa_cons (pe_lst (pa_cons (pe_tup (pa_cons pe_str (pa_cons pe_int pa_nil))) pa_nil)) (pa_cons (pe_lst (pa_cons (pe_tup (pa_cons pe_int (pa_cons pe_bl pa_nil))) pa_nil)) (pa_cons (pe_lst (pa_cons (pe_tup (pa_cons pe_int (pa_cons pe_int (pa_cons pe_int pa_nil)))) pa_nil)) (pa_cons (pe_lst (pa_cons (pe_tup (pa_cons pe_int (pa_cons pe_int pa_nil))) pa_nil)) (pa_cons (pe_lst (pa_cons (pe_tup (pa_cons pe_int (pa_cons pe_int pa_nil))) (pa_cons (pe_tup (pa_cons pe_int (pa_cons pe_int pa_nil))) pa_nil))) (pa_cons (pv 1) pa_nil)))))))))))))
  (pss_cons (ps_set (i := 3) sc_law_wrong.nd rfl (Or.inl rfl) (pe_op op_cat (pv 3) (pe_lst (pa_cons (pe_lst (pa_cons (pe_tup (pa_cons pe_int (pa_cons pe_int pa_nil))) (pa_cons (pe_tup (pa_cons pe_int (pa_cons pe_int pa_nil))) pa_nil))) (pa_cons (pe_lst (pa_cons (pe_tup (pa_cons pe_int (pa_cons pe_int pa_nil))) (pa_cons (pe_tup (pa_cons pe_int (pa_cons pe_int pa_nil))) pa_nil))) (pa_cons (pe_lst (pa_cons (pe_tup (pa_cons pe_int (pa_cons pe_non pa_nil))) (pa_cons (pe_tup (pa_cons pe_int (pa_cons pe_int pa_nil))) pa_nil))) (pa_cons (pe_lst (pa_cons (pe_tup (pa_cons pe_non (pa_cons pe_int pa_nil))) pa_nil)) (pa_cons pe_bl (pa_cons (pe_lst (pa_cons (pe_tup (pa_cons pe_bl (pa_cons pe_int pa_nil))) pa_nil)) pa_nil)))))))))
  (pss_cons (ps_set (i := 4) sc_law_wrong.nd rfl (Or.inl rfl) (pe_lst (pa_cons pe_non (pa_cons pe_int (pa_cons (pe_lst pa_nil) (pa_cons (pe_lst (pa_cons (pe_tup (pa_cons pe_int (pa_cons pe_int pa_nil))) pa_nil)) (pa_cons (pe_lst (pa_cons (pe_tup (pa_cons pe_int (pa_cons pe_int pa_nil))) pa_nil)) (pa_cons (pe_lst (pa_cons (pe_tup (pa_cons pe_int (pa_cons pe_int pa_nil))) (pa_cons (pe_tup (pa_cons pe_int (pa_cons pe_non pa_nil))) pa_nil))) (pa_cons (pe_lst (pa_cons (pe_tup (pa_cons pe_int (pa_cons pe_int pa_nil))) (pa_cons (pe_tup (pa_cons pe_int (pa_cons pe_int pa_nil))) pa_nil))) (pa_cons (pe_lst (pa_cons (pe_tup (pa_cons pe_int (pa_cons pe_int pa_nil))) (pa_cons (pe_tup (pa_cons pe_int (pa_cons pe_int pa_nil))) pa_nil))) (pa_cons (pe_lst (pa_cons (pe_lst (pa_cons pe_int (pa_cons pe_int pa_nil))) pa_nil)) (pa_cons pe_str pa_nil))))))))))))
  (pss_cons (ps_par (i := 5) (j := 6) (by rfl) sc_law_wrong.nd rfl rfl (by decide) rfl rfl (pa_cons (pe_lst (pa_cons pe_int (pa_cons pe_int (pa_cons pe_int (pa_cons (pe_op op_sub pe_int pe_int) (pa_cons pe_bl (pa_cons pe_non (pa_cons pe_str (pa_cons (pv 1) pa_nil))))))))) (pa_cons (pe_lst (pa_cons pe_int (pa_cons pe_int (pa_cons (pe_op op_sub pe_int pe_int) (pa_cons pe_non (pa_cons pe_bl (pa_cons pe_str (pa_cons (pv 1) pa_nil)))))))) pa_nil)) (by rfl))
  (pss_cons (ps_par (i := 7) (j := 8) (by rfl) sc_law_wrong.nd rfl rfl (by decide) rfl rfl (pa_cons (pe_lst (pa_cons pe_int (pa_cons (pe_lst (pa_cons (pe_tup (pa_cons pe_int (pa_cons pe_int pa_nil))) pa_nil)) (pa_cons (pe_lst (pa_cons (pe_tup (pa_cons pe_int (pa_cons pe_int pa_nil))) (pa_cons (pe_tup (pa_cons pe_int (pa_cons pe_int pa_nil))) pa_nil))) (pa_cons pe_int (pa_cons pe_int pa_nil)))))) (pa_cons (pe_lst (pa_cons (pv 2) (pa_cons (pv 3) (pa_cons (pv 4) (pa_cons (pv 5) (pa_cons (pv 6) pa_nil)))))) pa_nil)) (by rfl))
  (pss_cons (ps_set (i := 9) sc_law_wrong.nd rfl (Or.inl rfl) (pe_own o_law_take (hr.mono (by decide)) (pa_cons (pv 0) (pa_cons pe_int pa_nil))))
  (pss_cons (ps_asg (pe_own o_law_pick (hr.mono (by decide)) (pa_cons (pv 0) (pa_cons (pe_ix ix_list (pv 8) (pv 9) (fun _ _ => rfl)) pa_nil))) (pg_sub (pv 7) (pv 9) set_list))
  (pss_cons (ps_for PassesOwn.never rfl (pi_range2 (by rfl) T.range (pa_cons (pe_op op_add (pv 9) pe_int) (pa_cons pe_int pa_nil))) (pg_name (i := 10) sc_law_wrong.nd rfl (Or.inl rfl))
    (pss_one (ps_if (pt_cmpR op_eq (pe_own o_law_take (hr.mono (by decide)) (pa_cons (pv 0) (pa_cons pe_int pa_nil))) pe_int (nomark _))
        (pss_one (ps_asg (pe_own o_law_pick (hr.mono (by decide)) (pa_cons (pv 0) (pa_cons (pe_ix ix_list (pv 8) (pv 10) (fun _ _ => rfl)) pa_nil))) (pg_sub (pv 7) (pv 10) set_list)))
        pss_nil)))
  (pss_one (ps_ret (pe_tup (pa_cons (pv 7) (pa_cons (pe_ix ix_list (pe_lst (pa_cons pe_str (pa_cons pe_str (pa_cons pe_str (pa_cons pe_str (pa_cons pe_str pa_nil)))))) (pv 9) (fun _ _ => rfl)) pa_nil))))))))))))))), ?_⟩
    have s0 : Same (off b H) H := off_same
    refine st_set ?_
    have mk1 : ∀ {σ : L2.St} {G : Hp}, MkD (tLst (tCons (tLst (tCons (tLst (tCons (tLst (tCons (tLst (tCons (tLst (tCons (tLst (tCons (tLst (tCons (tC (.int 1)) tNil)) tNil)) tNil)) tNil)) tNil)) tNil)) tNil)) tNil)) σ G deepD := fun {σ G} =>
      .lst (.cons (.lst (.cons (.lst (.cons (.lst (.cons (.lst (.cons (.lst (.cons (.lst (.cons (.lst (.cons (.int 1) .nil) (by decide)) .nil) (by decide)) .nil) (by decide)) .nil) (by decide)) .nil) (by decide)) .nil) (by decide)) .nil) (by decide)) .nil) (by decide)
    refine mk1 _ _ _ (Same.refl _) s0 fun v1 G1 H1 g1 dv1 => ?_
    have ds1 : ∀ {G}, Same G1 G → Dv G v1 deepD := fun s => dv1.same s
    refine st_set ?_
    have mkU : ∀ {σ : L2.St} {G : Hp}, σ[1]? = some (some v1) → Dv G v1 deepD → MkD _ σ G (.list menuU) := fun {σ G} hs dD => (.lst (.cons (.sub (.int 0) (.int 1)) (.cons (.bl true) (.cons (.str (by decide +kernel)) (.cons (.tup (.cons (.int 1) .nil) (by decide)) (.cons (.lst (.cons (.int 1) .nil) (by decide)) (.cons (.var hs dD) .nil)))))) (by decide))
    refine mkU rfl dv1 _ _ _ (Same.refl _) g1.gh fun v2 G2 H2 g2 dv2 => ?_
    have g12 := g1.trans g2
    clear mk1 mkU
    refine st_set ?_
    have mkF1 : ∀ {σ : L2.St} {G : Hp}, σ[1]? = some (some v1) → Dv G v1 deepD → MkD _ σ G (.list menuF1) := fun {σ G} hs dD => (.lst (.cons .non (.cons (.str (by decide +kernel)) (.cons (.int 3) (.cons (.lst (.cons (.tup (.cons (.int 0) .nil) (by decide)) .nil) (by decide)) (.cons (.lst (.cons (.lst (.cons (.int 0) (.cons (.int 2) .nil)) (by decide)) .nil) (by decide)) (.cons (.lst (.cons (.tup (.cons (.str (by decide +kernel)) (.cons (.int 2) .nil)) (by decide)) .nil) (by decide)) (.cons (.lst (.cons (.tup (.cons (.int 0) (.cons (.bl true) .nil)) (by decide)) .nil) (by decide)) (.cons (.lst (.cons (.tup (.cons (.int 0) (.cons (.int 2) (.cons (.int 3) .nil))) (by decide)) .nil) (by decide)) (.cons (.lst (.cons (.tup (.cons (.int 0) (.cons (.int 1) .nil)) (by decide)) .nil) (by decide)) (.cons (.lst (.cons (.tup (.cons (.int 0) (.cons (.int 2) .nil)) (by decide)) (.cons (.tup (.cons (.int 0) (.cons (.int 3) .nil)) (by decide)) .nil)) (by decide)) (.cons (.var hs dD) .nil))))))))))) (by decide))
    refine mkF1 rfl (ds1 g2.gs) _ _ _ (Same.refl _) g2.gh fun v3 G3 H3 g3 dv3 => ?_
    have g13 := g12.trans g3
    clear mkF1
    refine st_set ?_
    have mkF2 : ∀ {σ : L2.St} {G : Hp}, σ[3]? = some (some v3) → Dv G v3 (.list menuF1) → MkD _ σ G (.list (menuF1 ++ menuF2)) := fun {σ G} hs dD => (MkL.cat (.var hs dD) (.lst (.cons (.lst (.cons (.tup (.cons (.int 1) (.cons (.int 3) .nil)) (by decide)) (.cons (.tup (.cons (.int 0) (.cons (.int 4) .nil)) (by decide)) .nil)) (by decide)) (.cons (.lst (.cons (.tup (.cons (.int 0) (.cons (.int 2) .nil)) (by decide)) (.cons (.tup (.cons (.int 1) (.cons (.int 2) .nil)) (by decide)) .nil)) (by decide)) (.cons (.lst (.cons (.tup (.cons (.int 0) (.cons .non .nil)) (by decide)) (.cons (.tup (.cons (.int 1) (.cons (.int 3) .nil)) (by decide)) .nil)) (by decide)) (.cons (.lst (.cons (.tup (.cons .non (.cons (.int 2) .nil)) (by decide)) .nil) (by decide)) (.cons (.bl true) (.cons (.lst (.cons (.tup (.cons (.bl true) (.cons (.int 2) .nil)) (by decide)) .nil) (by decide)) .nil)))))) (by decide)) (by decide)).dat (by decide)
    refine mkF2 rfl dv3 _ _ _ (Same.refl _) g3.gh fun v3' G4 H4 g4 dv4 => ?_
    have g14 := g13.trans g4
    clear mkF2
    refine st_set ?_
    have mkA : ∀ {σ : L2.St} {G : Hp}, MkD _ σ G (.list menuA) := fun {σ G} => (.lst (.cons .non (.cons (.int 3) (.cons (.lst .nil (by decide)) (.cons (.lst (.cons (.tup (.cons (.int 0) (.cons (.int 4) .nil)) (by decide)) .nil) (by decide)) (.cons (.lst (.cons (.tup (.cons (.int 3) (.cons (.int 2) .nil)) (by decide)) .nil) (by decide)) (.cons (.lst (.cons (.tup (.cons (.int 3) (.cons (.int 4) .nil)) (by decide)) (.cons (.tup (.cons (.int 5) (.cons .non .nil)) (by decide)) .nil)) (by decide)) (.cons (.lst (.cons (.tup (.cons (.int 3) (.cons (.int 4) .nil)) (by decide)) (.cons (.tup (.cons (.int 3) (.cons (.int 5) .nil)) (by decide)) .nil)) (by decide)) (.cons (.lst (.cons (.tup (.cons (.int 5) (.cons (.int 7) .nil)) (by decide)) (.cons (.tup (.cons (.int 3) (.cons (.int 4) .nil)) (by decide)) .nil)) (by decide)) (.cons (.lst (.cons (.lst (.cons (.int 3) (.cons (.int 4) .nil)) (by decide)) .nil) (by decide)) (.cons (.str (by decide +kernel)) .nil)))))))))) (by decide))
    refine mkA _ _ _ (Same.refl _) g4.gh fun v5 G5 H5 g5 dv5 => ?_
    have g15 := g14.trans g5
    clear mkA
    refine st_seq (st_par (st_cons ?_))
    have mkT : ∀ {σ : L2.St} {G : Hp}, σ[1]? = some (some v1) → Dv G v1 deepD → MkD _ σ G (.list menuT) := fun {σ G} hs dD => (.lst (.cons (.int 0) (.cons (.int 1) (.cons (.int 2) (.cons (.sub (.int 0) (.int 3)) (.cons (.bl true) (.cons .non (.cons (.str (by decide +kernel)) (.cons (.var hs dD) .nil)))))))) (by decide))
    have mkM : ∀ {σ : L2.St} {G : Hp}, σ[1]? = some (some v1) → Dv G v1 deepD → MkD _ σ G (.list menuM) := fun {σ G} hs dD => (.lst (.cons (.int 0) (.cons (.int 3) (.cons (.sub (.int 0) (.int 1)) (.cons .non (.cons (.bl true) (.cons (.str (by decide +kernel)) (.cons (.var hs dD) .nil))))))) (by decide))
    have d15 : Dv G5 v1 deepD := ds1 (g2.gs.trans (g3.gs.trans (g4.gs.trans g5.gs)))
    refine mkT rfl d15 _ _ _ (Same.refl _) g5.gh fun v6 G6 H6 g6 dv6 => ?_
    refine st_cons ?_
    refine mkM rfl (d15.same g6.gs) _ _ _ (Same.refl _) g6.gh fun v7 G7 H7 g7 dv7 => ?_
    have g17 := g15.trans (g6.trans g7)
    clear mkT mkM
    dsimp only [tNil]
    refine ⟨_, _, rfl, ?_⟩
    refine st_seq (st_par (st_cons ?_))
    have mkG : ∀ {σ : L2.St} {G : Hp}, MkL _ σ G givenD := fun {σ G} => .lst (.cons (.int 1) (.cons (.lst (.cons (.tup (.cons (.int 0) (.cons (.int 2) .nil)) (by decide)) .nil) (by decide)) (.cons (.lst (.cons (.tup (.cons (.int 3) (.cons (.int 4) .nil)) (by decide)) (.cons (.tup (.cons (.int 5) (.cons (.int 7) .nil)) (by decide)) .nil)) (by decide)) (.cons (.int 3) (.cons (.int 5) .nil))))) (by decide)
    refine mkG _ _ _ (Same.refl _) g7.gh fun pg ws G8 H8 g8 np ng ep dws => ?_
    clear mkG
    have e6 : Dv G8 v6 (.list menuT) := dv6.same (g7.gs.trans g8.gs)
    have e7 : Dv G8 v7 (.list menuM) := dv7.same g8.gs
    have e5 : Dv G8 v5 (.list menuA) := dv5.same (g6.gs.trans (g7.gs.trans g8.gs))
    have e4 : Dv G8 v3' (.list (menuF1 ++ menuF2)) := dv4.same (g5.gs.trans (g6.gs.trans (g7.gs.trans g8.gs)))
    have e2 : Dv G8 v2 (.list menuU) := dv2.same (g3.gs.trans (g4.gs.trans (g5.gs.trans (g6.gs.trans (g7.gs.trans g8.gs)))))
    have mkS : ∀ {σ : L2.St}, σ[2]? = some (some v2) → σ[3]? = some (some v3') → σ[4]? = some (some v5) → σ[5]? = some (some v6) → σ[6]? = some (some v7) → MkD _ σ G8 (.list (menus.map .list)) := fun {σ} h2 h3 h4 h5 h6 => .lst (.cons (.var h2 e2) (.cons (.var h3 e4) (.cons (.var h4 e5) (.cons (.var h5 e6) (.cons (.var h6 e7) .nil))))) (by decide)
    refine st_cons ?_
    refine mkS rfl rfl rfl rfl rfl _ _ _ (Same.refl _) g8.gh fun v8 G9 H9 g9 dv8 => ?_
    have g19 := g17.trans (g8.trans g9)
    refine ⟨_, _, rfl, ?_⟩
    have ep9 : H9 pg = some (.lst ws) := g9.hs _ _ ep
    have np0 : H pg = none := g17.hs.free np
    have ng9 : G9 pg = none := g9.nn _ _ ep ng
    have dws9 := dws.same g9.gs
    have pb : pg ≠ b := hb.ne np0
    have GO : Go b (off b H) H G9 H9 := (Go.refl s0 hb off_at).gr g19
    obtain ⟨p8, x8, rfl, e8, h8, l8⟩ := dv8.lstE
    clear mkS e2 e4 e5 e6 e7 dv2 dv3 dv4 dv5 dv6 dv7 ds1 d15 dv1 g1 g2 g3 g4 g5 g6 g7 g12 g13 g14 g15 g17 dws ep np
    refine ⟨_, rfl, b, 5, rfl, by decide, by decide, GO.box, fun H10 n hn bx10 b10 => ?_⟩
    have GO10 := GO.take bx10 b10
    have ep10 := bx10 _ _ pb ep9
    clear GO bx10 b10 ep9 g8 g9
    obtain ⟨m, hm⟩ : ∃ m, menus[n]? = some m := ⟨_, List.getElem?_eq_getElem (by show n < 5; omega)⟩
    have pick : ∀ {k : Nat} {mk : List PyData} {H' : Hp}, menus[k]? = some mk → Go b (off b H) H G9 H' → ∃ pa xa, x8[k]? = some (.ref pa) ∧ H' pa = some (.lst xa) ∧ pa ≠ b ∧ DvAll G9 xa mk ∧ 0 < xa.length ∧ xa.length < 1000 := fun {k mk H'} hk go => by
      obtain ⟨x, hx, dx⟩ := h8.at (i := k) (d := .list mk) (by rw [List.getElem?_map, hk]; rfl)
      obtain ⟨pa, xa, rfl, ea, ha, _⟩ := dx.lstE
      have hl := ha.len
      have hk5 : k < 5 := (List.getElem?_eq_some_iff.mp hk).1
      have hmk : 0 < mk.length ∧ mk.length < 1000 := by
        match k, hk5, hk with
        | 0, _, hk => cases hk; decide
        | 1, _, hk => cases hk; decide
        | 2, _, hk => cases hk; decide
        | 3, _, hk => cases hk; decide
        | 4, _, hk => cases hk; decide
      exact ⟨pa, xa, hx, go.gh _ _ ea, (fun z => by rw [z, go.gb] at ea; cases ea), ha, by omega, by omega⟩
    obtain ⟨pa, xa, hx8, eA, pab, hA, l0, l1⟩ := pick hm GO10
    have lws := dws9.len
    have lws5 : ws.length = 5 := lws
    refine ⟨_, rfl, _, rfl, _, rfl, _, _, _, _, rfl, rfl, SqL.of (GO10.gh _ _ e8), atI_nat hx8, b, pa, xa, rfl, GO10.box, pab, eA, l0, l1, fun H11 x hx bx11 b11 => ?_⟩
    obtain ⟨ix, hix⟩ := List.getElem?_of_mem hx
    obtain ⟨d, hd, dx⟩ := hA.get hix
    have hdm : d ∈ m := List.mem_of_getElem? hd
    have GO11 := GO10.take bx11 b11
    have ep11 := bx11 _ _ pb ep10
    refine ⟨_, rfl, _, rfl, pg, ws, (n : Int), n, rfl, rfl, ep11, ixN_nat (by omega), ?_⟩
    have GO12 := GO11.change (o := .lst (ws.set n x)) np0 ng9 pb
    have P0 : Part n (givenD.set n d) := ⟨by rw [List.length_set]; rfl, fun i hi => by rw [List.getElem?_set_ne (by omega)], m, d, hm, by rw [List.getElem?_set_self (by show n < 5; omega)], hdm⟩
    have set_ : ∀ {ws : List V} {ds : List PyData} {k : Nat} {x : V} {d : PyData}, DvAll G9 ws ds → Dv G9 x d → DvAll G9 (ws.set k x) (ds.set k d) := fun {ws ds k x d} h hx => dvSet h hx k
    refine ⟨_, rfl, _, _, rfl, rfl, (n : Int) + 1, 5, rfl, ⟨by omega, by omega, by omega, by omega⟩, for_range (lo := (n : Int) + 1) (n := ((5 : Int) - ((n : Int) + 1)).toNat) (fun i σ' H' => ∃ (ws : List V) (ds : List PyData) (y : Option V), σ' = [some (.ref b), some v1, some v2, some v3', some v5, some v6, some v7, some (.ref pg), some (.ref p8), some (.int (n : Nat)), y] ∧
        Go b (off b H) H G9 H' ∧ H' pg = some (.lst ws) ∧ DvAll G9 ws ds ∧ Part n ds)
      ⟨_, _, none, rfl, GO12, upd_same, set_ dws9 dx, P0⟩ ?_ ?_⟩
    · rintro i σ' H' hi ⟨ws2, ds2, y, rfl, GO2, eg, hd2, P2⟩
      have hi5 : n + 1 + i < 5 := by omega
      have ek : (n : Int) + 1 + (i : Int) = ((n + 1 + i : Nat) : Int) := by omega
      have lw2 : ws2.length = 5 := by rw [hd2.len, P2.len]
      refine ⟨_, rfl, b, 3, rfl, by decide, by decide, GO2.box, fun H3 z hz bx3 b3 => ?_⟩
      have GO3 := GO2.take bx3 b3
      have eg3 := bx3 _ _ pb eg
      refine ⟨rfl, _, rfl, ?_⟩
      refine ite2 (fun c => ?_) (fun c => ?_)
      · obtain ⟨m2, hm2⟩ : ∃ m, menus[n + 1 + i]? = some m := ⟨_, List.getElem?_eq_getElem (by show n + 1 + i < 5; omega)⟩
        obtain ⟨pa2, xa2, hx82, eA2, pab2, hA2, l02, l12⟩ := pick hm2 GO3
        refine ⟨_, rfl, _, rfl, _, rfl, _, _, _, _, rfl, rfl, SqL.of (GO3.gh _ _ e8), at_of ek hx82, b, pa2, xa2, rfl, GO3.box, pab2, eA2, l02, l12, fun H4 x4 hx4 bx4 b4 => ?_⟩
        obtain ⟨ix4, hix4⟩ := List.getElem?_of_mem hx4
        obtain ⟨d4, hd4, dx4⟩ := hA2.get hix4
        have GO4 := GO3.take bx4 b4
        have eg4 := bx4 _ _ pb eg3
        refine ⟨_, rfl, _, rfl, pg, ws2, ((n + 1 + i : Nat) : Int), n + 1 + i, rfl, by rw [ek], eg4, ixN_nat (by omega), ?_⟩
        exact ⟨_, _, some (.int ((n : Int) + 1 + (i : Int))), rfl, GO4.change np0 ng9 pb, upd_same, set_ hd2 dx4, P2.put (by omega) hi5⟩
      · exact ⟨ws2, ds2, some (.int ((n : Int) + 1 + (i : Int))), rfl, GO3, eg3, hd2, P2⟩
    · rintro σ' H' ⟨ws2, ds2, y, rfl, GO2, eg, hd2, P2⟩
      obtain ⟨w, hw⟩ : ∃ w, wordsT[n]? = some w := ⟨_, List.getElem?_eq_getElem (by show n < 5; omega)⟩
      refine ⟨_, rfl, Nat.le_of_ble_eq_true rfl, fun pl npl => ?_⟩
      generalize hq : upd H' pl _ = H3
      obtain ⟨s3, e3⟩ := new_facts npl hq
      clear hq
      have hw2 : (wordsT.map V.str)[n]? = some (.str w) := by rw [List.getElem?_map, hw]; rfl
      refine ⟨_, rfl, _, _, _, _, rfl, rfl, SqL.of e3, atI_nat hw2, Nat.le_of_ble_eq_true rfl, fun r nr => ?_⟩
      generalize hq : upd H3 r _ = H4
      obtain ⟨s4, e4⟩ := new_facts nr hq
      clear hq
      have s24 := s3.trans s4
      have b4 := GO2.box.same s24
      have sG : Same G9 (off b H4) := fun c o e => by
        rw [off_ne (fun z => by rw [z, GO2.gb] at e; cases e)]
        exact s24 _ _ (GO2.gh _ _ e)
      exact k H4 r pg ws2 ds2 n w hn (P2.wrong hn) hw (GO2.bx.trans (Bx.of s24)) b4 e4 (s24 _ _ eg) (hd2.same sG)
end
end My

namespace My
open PySem PySem.Spec PyProof.Rows L2
local macro_rules | `(tactic| walk_at "side") => `(tactic| first | (dsimp only; omega) | exact ⟨by omega, by omega⟩ | exact Or.inl ⟨by omega, by omega⟩ | exact Or.inr ⟨by omega, by omega⟩ | decide)
local macro_rules | `(tactic| walk_at "sq") => `(tactic| first | assumption | exact SqL.of (by assumption) | exact SqT.of (by assumption) | (refine L2.Same.seq (by assumption) ?_; walk_at "sq") | (refine L2.Same.seqT (by assumption) ?_; walk_at "sq") | exact Or.inl (by walk_at "sq") | exact Or.inr (by walk_at "sq"))
local macro_rules | `(tactic| walk_at "1") => `(tactic| first
  | refine ⟨_, rfl, iteT ?_⟩
  | refine ⟨_, rfl, iteF ?_⟩
  | refine ⟨_, rfl, ?_⟩
  | refine ⟨_, _, rfl, rfl, (by walk_at "side"), ?_⟩
  | refine ⟨_, _, rfl, rfl, ?_⟩
  | refine ⟨_, _, _, _, true, rfl, .ty _, .base (.int _), kit_ty (a := "int") (by decide +kernel), ?_⟩
  | refine ⟨_, _, _, _, false, rfl, .ty _, .base (.int _), kit_ty (a := "int") (by decide +kernel), ?_⟩
  | refine ⟨_, _, rfl, (by walk_at "sq"), ?_⟩
  | refine ⟨_, _, _, _, rfl, rfl, (by walk_at "sq"), (by first | rfl | assumption), ?_⟩
  | refine Or.inl ⟨_, _, _, _, rfl, rfl, (by walk_at "sq"), (by first | rfl | assumption), ?_⟩
  | refine Or.inr (Or.inl ⟨_, _, _, _, rfl, rfl, (by walk_at "sq"), (by first | rfl | assumption), ?_⟩)
  | refine ⟨_, _, rfl, Or.inl ⟨(by walk_at "sq"), ?_⟩⟩
  | refine ⟨rfl, ?_⟩
  | refine iteT ?_
  | refine iteF ?_
  | refine ⟨_, _, _, _, _, rfl, (by assumption), (by assumption), (by assumption), (by assumption), ?_⟩
  | refine Or.inl ⟨_, rfl, ?_⟩
  | refine Or.inr ⟨_, rfl, ?_⟩
  | refine ⟨_, _, rfl, (by walk_at "side"), ?_⟩
  | refine ⟨_, _, rfl, ?_⟩)
local macro_rules | `(tactic| walk_at "fld") => `(tactic| skip)
local macro_rules | `(tactic| walk_at "s") => `(tactic| repeat walk_at "1")
local macro_rules | `(tactic| walk_at "size") => `(tactic| first | exact Nat.le_of_ble_eq_true rfl | (simp only [List.length_map, List.length_append, List.length_cons, List.length_nil]; omega))
local macro_rules | `(tactic| walk_at "new") => `(tactic| (first | refine ⟨(by walk_at "size"), fun p hp => ?_⟩ | refine fun p hp => ?_); (generalize hq : upd _ p _ = H1); (obtain ⟨s, e⟩ := new_facts hp hq); clear hq)
/-! wrong arguments are refused -/
/-- all stays but the box and the tables of code -/
def BxN (b : Addr) (H H' : Hp) : Prop := ∀ c o, c ≠ b → (∀ ps, o ≠ .tbl ps) → H c = some o → H' c = some o
theorem BxN.of {b : Addr} {H H' : Hp} (s : Bx b H H') : BxN b H H' := fun c o n _ e => s c o n e
theorem BxN.same {b : Addr} {H H' : Hp} (s : Same H H') : BxN b H H' := fun c o _ _ e => s c o e
theorem BxN.ext {b : Addr} {H H' : Hp} (s : LamX.ExtN H H') : BxN b H H' := fun c o _ n e => s c o e n
theorem BxN.trans {b : Addr} {H H1 H2 : Hp} (s : BxN b H H1) (t : BxN b H1 H2) : BxN b H H2 := fun c o n m e => t c o n m (s c o n m e)
theorem box_ext {b : Addr} {H H' : Hp} (h : BoxAt H b) (s : LamX.ExtN H H') : BoxAt H' b := by
  obtain ⟨x, y, z, h0, h1⟩ := h
  exact ⟨x, y, z, h0, s _ _ h1 (fun ps q => nomatch q)⟩
theorem ext_keep {H H' : Hp} (s : LamX.ExtN H H') : KeepLT H H' := fun c xs => ⟨fun e => s _ _ e (fun ps q => nomatch q), fun e => s _ _ e (fun ps q => nomatch q)⟩
theorem tabs_bx {T : List (Addr × Str)} {b : Addr} {H H' : Hp} (h : LamX.Tabs T H) (hb : BoxAt H b) (s : Bx b H H') : LamX.Tabs T H' := fun p hp => by
  obtain ⟨ps, h1, h2, h3⟩ := h p hp
  obtain ⟨_, _, _, _, eb⟩ := hb
  refine ⟨ps, s _ _ (fun z => by rw [z, eb] at h1; cases h1) h1, h2, fun pos cv hc => ?_⟩
  obtain ⟨c, e1, e2⟩ := h3 pos cv hc
  exact ⟨c, e1, s _ _ (fun z => by rw [z, eb] at e2; cases e2) e2⟩
/-- a def whose code object is known -/
structure DfC (K : PySem.W.Frag) (mg : Str → Option Value) (x : Str) (st : Stmt) (ps : List Str) (c : Addr) : Prop where
  ex : ∃ (f : Addr) (oc : Value) (od : Option Addr) (kV doc pm : Value) (an : Option Addr) (ct : Value) (osl : Array (Option Value)), K.lookup f = some ⟨oc, od, .func (PySem.W.fnOf x x (defArgs st) (defBody st) (defScope st) .none kV doc pm an (.ref c) ct), osl⟩ ∧ PySem.W.codeIn K (.ref c) x = true ∧ mg x = some (.ref f) ∧
    PySem.W.keepIn K (.ref f) = true ∧ Binds K (PySem.W.fnOf x x (defArgs st) (defBody st) (defScope st) .none kV doc pm an (.ref c) ct) ps []
theorem DfC.own {P : Program} {w : World} {K : PySem.W.Frag} {mg : Str → Option Value} {base : Heap} {x : Str} {st : Stmt} {ps N : List Str} {k : Nat} {sp : Sp} {c : Addr} (D : DfC K mg x st ps c) (S : FnScope N ps (defScope st)) (len : ∀ vs H Q E, sp vs H Q E → vs.length = ps.length)
    (hbody : ∀ (f : Addr) (A : Around) (outer : List Env) (s : Shared) (H : Hp) (vs : List V) (Q : VK) (E : XK), Room k (A.deeper (envOfC x (defScope st) s.heap.objs.size f (.ref c))) → sp vs H Q E →
      ∃ t, PSs (cxOf CX0 P w K mg base N x (defScope st) f (.ref c) A outer s H E).nox (defBody st) t ∧ t { nx := fun _ H' => Q .non H', rt := Q } (start N vs) H) : Own P w K mg base x (k + 1) ps sp := by
  obtain ⟨f, oc, od, kV, doc, pm, an, ct, osl, lk, code, m, kp, b⟩ := D.ex
  refine ⟨f, _, ⟨len, fun A outer s H args us vs Q E hr e0 hb rv hs => ?_⟩, m, kp, b⟩
  refine LamX.run_ofS lk code S hr e0 hb rv (len _ _ _ _ hs) fun hr' => ?_
  obtain ⟨t, ht, hq⟩ := hbody f A outer s H vs Q E hr' hs
  exact ⟨t, ht.nox, hq⟩
theorem rd_lamT {T : List (Addr × Str)} {C D : Addr} {ta : TA} {σ : L2.St} {H : Hp} {Q : VK} {d0 d1 d2 d3 d4 : PyData} {w : Str} (mk : MkA ta σ (fun _ => none) [d0, d1, d2, d3, d4]) (hw : wordT d0 d1 d2 d3 d4 = some w) (hT : LamX.Tabs T H) (q : ∀ H', LamX.ExtN H H' → LamX.Tabs T H' → Q (.str w) H') :
    LamX.tLam T (TH D) (fun E' => tMakeS C (spInitT C D) [] (WE fun cls d _ H => E' cls d H) ta) σ H Q := by
  refine ⟨hT, fun H1 e1 t1 => ?_⟩
  refine mk (fun _ => none) H1 _ (Same.refl _) (fun c o e => nomatch e) fun vs G2 H2 g2 dvs => ?_
  obtain ⟨v0, vs, rfl, i0, dvs⟩ := dvs.inv
  obtain ⟨v1, vs, rfl, i1, dvs⟩ := dvs.inv
  obtain ⟨v2, vs, rfl, i2, dvs⟩ := dvs.inv
  obtain ⟨v3, vs, rfl, i3, dvs⟩ := dvs.inv
  obtain ⟨v4, vs, rfl, i4, dvs⟩ := dvs.inv
  obtain rfl := dvs.inv0
  intro x dx nx ndx nex
  refine rd_init (C := C) (D := D) (Q := fun _ H' => Q (.str "made") H') (E := fun cls d H' => ∃ dx w, cls = .ref D ∧ d = some dx ∧ H' dx = some (.xd [("word", .str w)]) ∧ Q (.str w) H') (i0.same g2.gh) (i1.same g2.gh) (i2.same g2.gh) (i3.same g2.gh) (i4.same g2.gh) ⟨fun w' hw' H' d s' ed => ⟨d, w', rfl, rfl, ed, ?_⟩, fun z => by rw [hw] at z; cases z⟩ nx ndx nex
  rw [hw] at hw'
  cases hw'
  have s12 := g2.hs.trans s'
  exact q H' (e1.trans (LamX.ExtN.of s12)) (t1.ext s12)
/-- what is kept while a list of one's own is filled -/
structure Fill (T : List (Addr × Str)) (b L : Addr) (H0 H : Hp) (xs : List V) : Prop where
  bx : BxN b H0 H
  box : BoxAt H b
  tabs : LamX.Tabs T H
  at_ : H L = some (.lst xs)
  new : H0 L = none
  ne : L ≠ b
theorem Fill.ext {T : List (Addr × Str)} {b L : Addr} {H0 H H' : Hp} {xs : List V} (h : Fill T b L H0 H xs) (e : LamX.ExtN H H') (t : LamX.Tabs T H') : Fill T b L H0 H' xs :=
  ⟨h.bx.trans (BxN.ext e), box_ext h.box e, t, e _ _ h.at_ (fun ps q => nomatch q), h.new, h.ne⟩
theorem Fill.put {T : List (Addr × Str)} {b L : Addr} {H0 H : Hp} {xs ys : List V} (h : Fill T b L H0 H xs) : Fill T b L H0 (upd H L (.lst ys)) ys := by
  refine ⟨fun c o n m e => ?_, ?_, fun p hp => ?_, upd_same, h.new, h.ne⟩
  · rw [upd_ne (ne_of_none e h.new)]
    exact h.bx c o n m e
  · obtain ⟨x, y, z, h0, h1⟩ := h.box
    exact ⟨x, y, z, h0, by rw [upd_ne h.ne.symm]; exact h1⟩
  · obtain ⟨ps, h1, h2, h3⟩ := h.tabs p hp
    refine ⟨ps, by rw [upd_ne (fun z => by rw [z, h.at_] at h1; cases h1)]; exact h1, h2, fun pos cv hc => ?_⟩
    obtain ⟨c, e1, e2⟩ := h3 pos cv hc
    exact ⟨c, e1, by rw [upd_ne (fun z => by rw [z, h.at_] at e2; cases e2)]; exact e2⟩
def spRefused (T : List (Addr × Str)) : Sp := fun vs H Q _ => ∃ b : Addr, vs = [.ref b] ∧ BoxAt H b ∧ LamX.Tabs T H ∧ ∀ H', BxN b H H' → BoxAt H' b → LamX.Tabs T H' → Q (.bl true) H'
section
variable {P : Program} {w : World} {K : PySem.W.Frag} {mg : Str → Option Value} {base : Heap} {C D W IR c Pt : Addr}
abbrev s_law_refused_right : Stmt := topS 38
theorem sc_law_refused_right : FnScope ["box", "turn", "given", "word", "due"] ["box"] (defScope s_law_refused_right) := ⟨rfl, rfl, rfl, by decide +kernel, rfl, by decide +kernel, by decide +kernel⟩
set_option maxHeartbeats 16000000 in
theorem ok_refused (F : DfC K mg "_law_refused_right" s_law_refused_right ["box"] c) (Tx : Txt mg) (FH : Df K mg "_law_heard" s_law_heard ["work"]) (Z : HeardT K mg D W IR) (M : TalMk P w K mg base C D) (TB : LamX.TabB base mg c Pt)
    (o_law_wrong : Own P w K mg base "_law_wrong" 3 ["box"] spWrong) (o_law_made : OwnX P w K mg base "_law_made" 7 ["raw"] (spMade C D)) : Own P w K mg base "_law_refused_right" 11 ["box"] (spRefused [(Pt, "_law_refused_right.<locals>.<lambda>")]) := by
  obtain ⟨fM, fdM, FM, mM, MM, bM⟩ := M.ex
  obtain ⟨fh, fdh, Fh, mh, bh⟩ := FH.ex
  obtain ⟨oc, od, kV, doc, pm, an, cdv, ct, osl, rfl, lkh, codeh⟩ := Fh.ex
  refine F.own sc_law_refused_right (fun vs H Q E h => ?_) (fun f A outer s H vs Q E hr h => ?_)
  · obtain ⟨_, rfl, _⟩ := h
    rfl
  · obtain ⟨b, rfl, hb, hT, k⟩ := h
    have lam : ∀ {params : Arguments} {body : Expr} {scope : Scope} {t : XK → TE} {p lpos pos : Pos}, LamX.LamS (defScope s_law_refused_right) scope → (∀ env, defaultsOf params env = ([], [])) →
        (∀ (q : Str) (cl : List (Str × Addr)) (pm cv ctv : Value), bindArgs (PySem.W.kla_fn "<lambda>" q params body scope cl pm cv ctv) ⟨[], []⟩ = pure []) →
        (∀ (A' : Around) (outer' : List Env) (s' : Shared) (H' : Hp) (E' : XK) (f' c' : Addr), Room 8 (A'.deeper (LamX.lamEnv (cxOf CX0 P w K mg base ["box", "turn", "given", "word", "due"] "_law_refused_right" (defScope s_law_refused_right) f (.ref c) A outer s H E).nox scope s'.heap.objs.size f' c')) →
          PE (LamX.lamCx (cxOf CX0 P w K mg base ["box", "turn", "given", "word", "due"] "_law_refused_right" (defScope s_law_refused_right) f (.ref c) A outer s H E).nox A' outer' s' H' E' scope f' c') body (t E')) →
        PE (cxOf CX0 P w K mg base ["box", "turn", "given", "word", "due"] "_law_refused_right" (defScope s_law_refused_right) f (.ref c) A outer s H E).nox (.Call (.Name "_law_heard" p) [.Lambda params body scope lpos] [] pos) (LamX.tLam [(Pt, "_law_refused_right.<locals>.<lambda>")] (TH D) t) := fun {params body scope t p lpos pos} L d0 n0 inner =>
      pe_lamS (k := 8) (by rfl) mh Fh.kp lkh codeh bh sc_law_heard rfl (Or.inl (by rfl)) (heard_gives Tx Z) TB rfl (by exact List.mem_singleton.mpr rfl) (fun p hp _ => by rw [List.mem_singleton.mp hp]; rfl) (hr.mono (by decide)) L (d0 _) n0 inner
    refine ⟨_, (pss_cons (ps_for PassesOwn.never rfl (pi_range1 (by rfl) Tx.range (pa_cons pe_int pa_nil)) (pg_name (i := 1) sc_law_refused_right.nd rfl (Or.inl rfl))
      (pss_cons (ps_asg (pe_own o_law_wrong (hr.mono (by decide)) (pa_cons (pv 0) pa_nil)) (pg_tup (by rfl) (pgs_cons (pg_name (i := 2) sc_law_refused_right.nd rfl (Or.inr rfl)) (pgs_cons (pg_name (i := 3) sc_law_refused_right.nd rfl (Or.inl rfl)) pgs_nil))))
      (pss_one (ps_if (pt_cmpR op_ne (lam (t := fun E' => tCallS (spMade C D) (WE (fun cls d _ H => E' cls d H)) (tCons (tVar 2) tNil)) (LamX.lamS_by (by rfl)) (fun _ => rfl) (fun _ _ _ _ _ => rfl) (fun A' outer' s' H' E' f' c' room => by exact pe_ownX o_law_made (room.mono (by decide)) (takes_of rfl rfl rfl rfl) (pa_cons (pv 2) pa_nil))) (pv 3) (nomark _))
        (pss_one (ps_ret pe_bl))
        pss_nil))))
      (pss_cons (ps_set (i := 4) sc_law_refused_right.nd rfl (Or.inl rfl) (pe_lst (pa_cons (lam (t := fun E' => tMakeS C (spInitT C D) [] (WE fun cls d _ H => E' cls d H) (tCons (tC (.int 1)) (tCons (tLst (tCons (tTup (tCons (tC (.int 0)) (tCons (tC .non) tNil))) tNil)) (tCons (tLst (tCons (tTup (tCons (tC (.int 3)) (tCons (tC (.int 4)) tNil))) tNil)) (tCons (tC (.int 0)) (tCons (tC (.int 0)) tNil)))))) (LamX.lamS_by (by rfl)) (fun _ => rfl) (fun _ _ _ _ _ => rfl) (fun A' outer' s' H' E' f' c' room => by exact pe_makeS MM FM (room.mono (by decide)) (by rfl) mM bM .nil (fun σ => passAt (takes_of rfl rfl rfl rfl) σ) (pa_cons pe_int (pa_cons (pe_lst (pa_cons (pe_tup (pa_cons pe_int (pa_cons pe_non pa_nil))) pa_nil)) (pa_cons (pe_lst (pa_cons (pe_tup (pa_cons pe_int (pa_cons pe_int pa_nil))) pa_nil)) (pa_cons pe_int (pa_cons pe_int pa_nil))))))) pa_nil)))
      (pss_cons (ps_expr (pe_bm PySem.F.plainAttrs_list PySem.F.slot_list_append PySem.F.type_list_append mt_append (pv 4) (pa_cons (lam (t := fun E' => tMakeS C (spInitT C D) [] (WE fun cls d _ H => E' cls d H) (tCons (tC (.int 1)) (tCons (tLst (tCons (tTup (tCons (tC (.int 0)) (tCons (tC .non) tNil))) tNil)) (tCons (tTup tNil) (tCons (tC (.int 3)) (tCons (tC (.int 0)) tNil)))))) (LamX.lamS_by (by rfl)) (fun _ => rfl) (fun _ _ _ _ _ => rfl) (fun A' outer' s' H' E' f' c' room => by exact pe_makeS MM FM (room.mono (by decide)) (by rfl) mM bM .nil (fun σ => passAt (takes_of rfl rfl rfl rfl) σ) (pa_cons pe_int (pa_cons (pe_lst (pa_cons (pe_tup (pa_cons pe_int (pa_cons pe_non pa_nil))) pa_nil)) (pa_cons (pe_tup pa_nil) (pa_cons pe_int (pa_cons pe_int pa_nil))))))) pa_nil)))
      (pss_cons (ps_expr (pe_bm PySem.F.plainAttrs_list PySem.F.slot_list_append PySem.F.type_list_append mt_append (pv 4) (pa_cons (lam (t := fun E' => tMakeS C (spInitT C D) [] (WE fun cls d _ H => E' cls d H) (tCons (tC (.int 1)) (tCons (tLst (tCons (tTup (tCons (tC (.int 0)) (tCons (tC .non) tNil))) tNil)) (tCons (tTup tNil) (tCons (tC (.int 0)) (tCons (tC (.int 1)) tNil)))))) (LamX.lamS_by (by rfl)) (fun _ => rfl) (fun _ _ _ _ _ => rfl) (fun A' outer' s' H' E' f' c' room => by exact pe_makeS MM FM (room.mono (by decide)) (by rfl) mM bM .nil (fun σ => passAt (takes_of rfl rfl rfl rfl) σ) (pa_cons pe_int (pa_cons (pe_lst (pa_cons (pe_tup (pa_cons pe_int (pa_cons pe_non pa_nil))) pa_nil)) (pa_cons (pe_tup pa_nil) (pa_cons pe_int (pa_cons pe_int pa_nil))))))) pa_nil)))
      (pss_cons (ps_expr (pe_bm PySem.F.plainAttrs_list PySem.F.slot_list_append PySem.F.type_list_append mt_append (pv 4) (pa_cons (lam (t := fun E' => tMakeS C (spInitT C D) [] (WE fun cls d _ H => E' cls d H) (tCons (tC .non) (tCons (tLst (tCons (tTup (tCons (tC (.int 0)) (tCons (tC (.int 1)) tNil))) tNil)) (tCons (tTup tNil) (tCons (tC (.int 0)) (tCons (tC (.int 0)) tNil)))))) (LamX.lamS_by (by rfl)) (fun _ => rfl) (fun _ _ _ _ _ => rfl) (fun A' outer' s' H' E' f' c' room => by exact pe_makeS MM FM (room.mono (by decide)) (by rfl) mM bM .nil (fun σ => passAt (takes_of rfl rfl rfl rfl) σ) (pa_cons pe_non (pa_cons (pe_lst (pa_cons (pe_tup (pa_cons pe_int (pa_cons pe_int pa_nil))) pa_nil)) (pa_cons (pe_tup pa_nil) (pa_cons pe_int (pa_cons pe_int pa_nil))))))) pa_nil)))
      (pss_cons (ps_expr (pe_bm PySem.F.plainAttrs_list PySem.F.slot_list_append PySem.F.type_list_append mt_append (pv 4) (pa_cons (lam (t := fun E' => tMakeS C (spInitT C D) [] (WE fun cls d _ H => E' cls d H) (tCons (tC .non) (tCons (tTup tNil) (tCons (tLst (tCons (tTup (tCons (tC (.int 1)) (tCons (tC (.int 2)) tNil))) tNil)) (tCons (tC (.int 1)) (tCons (tC (.int 3)) tNil)))))) (LamX.lamS_by (by rfl)) (fun _ => rfl) (fun _ _ _ _ _ => rfl) (fun A' outer' s' H' E' f' c' room => by exact pe_makeS MM FM (room.mono (by decide)) (by rfl) mM bM .nil (fun σ => passAt (takes_of rfl rfl rfl rfl) σ) (pa_cons pe_non (pa_cons (pe_tup pa_nil) (pa_cons (pe_lst (pa_cons (pe_tup (pa_cons pe_int (pa_cons pe_int pa_nil))) pa_nil)) (pa_cons pe_int (pa_cons pe_int pa_nil))))))) pa_nil)))
      (pss_cons (ps_expr (pe_bm PySem.F.plainAttrs_list PySem.F.slot_list_append PySem.F.type_list_append mt_append (pv 4) (pa_cons (lam (t := fun E' => tMakeS C (spInitT C D) [] (WE fun cls d _ H => E' cls d H) (tCons (tC (.int 1)) (tCons (tLst (tCons (tTup (tCons (tC (.int 0)) (tCons (tC (.int 2)) tNil))) tNil)) (tCons (tLst (tCons (tTup (tCons (tC (.bl true)) (tCons (tC (.int 4)) tNil))) tNil)) (tCons (tC (.int 3)) (tCons (tC (.int 5)) tNil)))))) (LamX.lamS_by (by rfl)) (fun _ => rfl) (fun _ _ _ _ _ => rfl) (fun A' outer' s' H' E' f' c' room => by exact pe_makeS MM FM (room.mono (by decide)) (by rfl) mM bM .nil (fun σ => passAt (takes_of rfl rfl rfl rfl) σ) (pa_cons pe_int (pa_cons (pe_lst (pa_cons (pe_tup (pa_cons pe_int (pa_cons pe_int pa_nil))) pa_nil)) (pa_cons (pe_lst (pa_cons (pe_tup (pa_cons pe_bl (pa_cons pe_int pa_nil))) pa_nil)) (pa_cons pe_int (pa_cons pe_int pa_nil))))))) pa_nil)))
      (pss_one (ps_ret (pe_cmpR (op_eqD hr.units) (pv 4) (pe_lst (pa_cons pe_str (pa_cons pe_str (pa_cons pe_str (pa_cons pe_str (pa_cons pe_str (pa_cons pe_str pa_nil))))))) (nomark _))))))))))), ?_⟩
    refine ⟨8, rfl, by decide, by decide, for_range (lo := 0) (n := 8) (fun i σ' H' => ∃ y z u : Option V, σ' = [some (.ref b), y, z, u, none] ∧ BxN b H H' ∧ BoxAt H' b ∧ LamX.Tabs [(Pt, "_law_refused_right.<locals>.<lambda>")] H')
      ⟨none, none, none, rfl, BxN.same (Same.refl _), hb, hT⟩ ?_ ?_⟩
    · rintro i σ' H' hi ⟨y, z, u, rfl, bx, box, tabs⟩
      refine ⟨_, rfl, b, rfl, box, fun H1 r g ws ds n wd hn hW hw bx1 box1 er eg hd => ?_⟩
      obtain ⟨d0, d1, d2, d3, d4, wd', rfl, hw2, hwt⟩ := hW
      rw [hw] at hw2
      cases hw2
      have tabs1 := tabs_bx tabs box bx1
      refine ⟨r, _, rfl, SqT.of er, rfl, _, _, rfl, _, _, rfl, rfl, ?_⟩
      refine ⟨tabs1, fun H2 e2 t2 => ?_⟩
      obtain ⟨v0, ws, rfl, i0, hd⟩ := hd.inv
      obtain ⟨v1, ws, rfl, i1, hd⟩ := hd.inv
      obtain ⟨v2, ws, rfl, i2, hd⟩ := hd.inv
      obtain ⟨v3, ws, rfl, i3, hd⟩ := hd.inv
      obtain ⟨v4, ws, rfl, i4, hd⟩ := hd.inv
      obtain rfl := hd.inv0
      have up2 : ∀ {v : V} {d : PyData}, Dv (off b H1) v d → Dv H2 v d := fun h => (h.same off_same).keep (ext_keep e2)
      refine ⟨_, rfl, g, v0, v1, v2, v3, v4, d0, d1, d2, d3, d4, rfl, Or.inl (e2 _ _ eg (fun ps q => nomatch q)), up2 i0, up2 i1, up2 i2, up2 i3, up2 i4, ⟨fun w' hw' H' d s' ed => ⟨d, w', rfl, rfl, ed, ?_⟩, fun q => by rw [hwt] at q; cases q⟩⟩
      rw [hwt] at hw'
      cases hw'
      refine ⟨_, rfl, rfl, _, rfl, ?_⟩
      rw [decide_eq_true rfl]
      refine iteF ?_
      exact ⟨_, _, _, rfl, (bx.trans (BxN.of bx1)).trans ((BxN.ext e2).trans (BxN.same s')), (box_ext box1 e2).same s', t2.ext s'⟩
    · rintro σ' H' ⟨y, z, u, rfl, bx, box, tabs⟩
      refine rd_lamT (w := wA) (by exact (.cons (.int 1) (.cons (.lst (.cons (.tup (.cons (.int 0) (.cons .non .nil)) (by decide)) .nil) (by decide)) (.cons (.lst (.cons (.tup (.cons (.int 3) (.cons (.int 4) .nil)) (by decide)) .nil) (by decide)) (.cons (.int 0) (.cons (.int 0) .nil)))))) (by decide) tabs fun H1 e1 t1 => ?_
      refine ⟨Nat.le_of_ble_eq_true rfl, fun L nL => ?_⟩
      have F0 : Fill [(Pt, "_law_refused_right.<locals>.<lambda>")] b L H1 (upd H1 L (.lst [.str wA])) [.str wA] := ⟨BxN.same (same_upd nL), (box_ext box e1).same (same_upd nL), t1.ext (same_upd nL), upd_same, nL, (box_ext box e1).ne nL⟩
      have bx1 := bx.trans (BxN.ext e1)
      generalize upd H1 L (.lst [.str wA]) = H2 at F0 ⊢
      refine ⟨_, rfl, Or.inl ⟨rfl, _, SqL.of F0.at_⟩, rd_lamT (w := wT) (by exact (.cons (.int 1) (.cons (.lst (.cons (.tup (.cons (.int 0) (.cons .non .nil)) (by decide)) .nil) (by decide)) (.cons (.tup .nil (by decide)) (.cons (.int 3) (.cons (.int 0) .nil)))))) (by decide) F0.tabs fun Ha ea ta => ?_⟩
      have Fe := F0.ext ea ta
      refine ⟨L, _, _, rfl, rfl, Fe.at_, by decide, ?_⟩
      have F1 := Fe.put (ys := [.str wA, .str wT])
      clear Fe F0 ea ta
      dsimp only [List.append, List.cons_append, List.nil_append]
      generalize upd Ha L (.lst _) = H3 at F1 ⊢
      refine ⟨_, rfl, Or.inl ⟨rfl, _, SqL.of F1.at_⟩, rd_lamT (w := wM) (by exact (.cons (.int 1) (.cons (.lst (.cons (.tup (.cons (.int 0) (.cons .non .nil)) (by decide)) .nil) (by decide)) (.cons (.tup .nil (by decide)) (.cons (.int 0) (.cons (.int 1) .nil)))))) (by decide) F1.tabs fun Ha ea ta => ?_⟩
      have Fe := F1.ext ea ta
      refine ⟨L, _, _, rfl, rfl, Fe.at_, by decide, ?_⟩
      have F2 := Fe.put (ys := [.str wA, .str wT, .str wM])
      clear Fe F1 ea ta
      dsimp only [List.append, List.cons_append, List.nil_append]
      generalize upd Ha L (.lst _) = H4 at F2 ⊢
      refine ⟨_, rfl, Or.inl ⟨rfl, _, SqL.of F2.at_⟩, rd_lamT (w := wF) (by exact (.cons .non (.cons (.lst (.cons (.tup (.cons (.int 0) (.cons (.int 1) .nil)) (by decide)) .nil) (by decide)) (.cons (.tup .nil (by decide)) (.cons (.int 0) (.cons (.int 0) .nil)))))) (by decide) F2.tabs fun Ha ea ta => ?_⟩
      have Fe := F2.ext ea ta
      refine ⟨L, _, _, rfl, rfl, Fe.at_, by decide, ?_⟩
      have F3 := Fe.put (ys := [.str wA, .str wT, .str wM, .str wF])
      clear Fe F2 ea ta
      dsimp only [List.append, List.cons_append, List.nil_append]
      generalize upd Ha L (.lst _) = H5 at F3 ⊢
      refine ⟨_, rfl, Or.inl ⟨rfl, _, SqL.of F3.at_⟩, rd_lamT (w := wA) (by exact (.cons .non (.cons (.tup .nil (by decide)) (.cons (.lst (.cons (.tup (.cons (.int 1) (.cons (.int 2) .nil)) (by decide)) .nil) (by decide)) (.cons (.int 1) (.cons (.int 3) .nil)))))) (by decide) F3.tabs fun Ha ea ta => ?_⟩
      have Fe := F3.ext ea ta
      refine ⟨L, _, _, rfl, rfl, Fe.at_, by decide, ?_⟩
      have F4 := Fe.put (ys := [.str wA, .str wT, .str wM, .str wF, .str wA])
      clear Fe F3 ea ta
      dsimp only [List.append, List.cons_append, List.nil_append]
      generalize upd Ha L (.lst _) = H6 at F4 ⊢
      refine ⟨_, rfl, Or.inl ⟨rfl, _, SqL.of F4.at_⟩, rd_lamT (w := wA) (by exact (.cons (.int 1) (.cons (.lst (.cons (.tup (.cons (.int 0) (.cons (.int 2) .nil)) (by decide)) .nil) (by decide)) (.cons (.lst (.cons (.tup (.cons (.bl true) (.cons (.int 4) .nil)) (by decide)) .nil) (by decide)) (.cons (.int 3) (.cons (.int 5) .nil)))))) (by decide) F4.tabs fun Ha ea ta => ?_⟩
      have Fe := F4.ext ea ta
      refine ⟨L, _, _, rfl, rfl, Fe.at_, by decide, ?_⟩
      have F5 := Fe.put (ys := [.str wA, .str wT, .str wM, .str wF, .str wA, .str wA])
      clear Fe F4 ea ta
      dsimp only [List.append, List.cons_append, List.nil_append]
      generalize upd Ha L (.lst _) = H7 at F5 ⊢
      refine ⟨_, rfl, Nat.le_of_ble_eq_true rfl, fun p np => ?_⟩
      have s8 := same_upd (o := .lst [.str "again", .str "turn", .str "more", .str "first", .str "again", .str "again"]) np
      have o1 : okS "again" = true := by decide +kernel
      have o2 : okS "turn" = true := by decide +kernel
      have o3 : okS "more" = true := by decide +kernel
      have o4 : okS "first" = true := by decide +kernel
      have ds : ∀ {G : Hp}, DvAll G [.str "again", .str "turn", .str "more", .str "first", .str "again", .str "again"] [.str "again", .str "turn", .str "more", .str "first", .str "again", .str "again"] := .cons (.str o1) (.cons (.str o2) (.cons (.str o3) (.cons (.str o4) (.cons (.str o1) (.cons (.str o1) .nil)))))
      have d1 : Dv (upd H7 p (.lst [.str "again", .str "turn", .str "more", .str "first", .str "again", .str "again"])) (.ref L) (.list [.str "again", .str "turn", .str "more", .str "first", .str "again", .str "again"]) := .lst (s8 _ _ F5.at_) ds (by decide)
      have d2 : Dv (upd H7 p (.lst [.str "again", .str "turn", .str "more", .str "first", .str "again", .str "again"])) (.ref p) (.list [.str "again", .str "turn", .str "more", .str "first", .str "again", .str "again"]) := .lst upd_same ds (by decide)
      refine ⟨_, _, d1.dp, d2.dp, by decide +kernel, by decide +kernel, ?_⟩
      rw [show PyData.eqv (.list [.str "again", .str "turn", .str "more", .str "first", .str "again", .str "again"]) (.list [.str "again", .str "turn", .str "more", .str "first", .str "again", .str "again"]) = true by decide +kernel]
      exact k _ ((bx1.trans F5.bx).trans (BxN.same s8)) (F5.box.same s8) (F5.tabs.ext s8)
end
end My

namespace My
open PySem PySem.Spec PyProof.Rows L2
local macro_rules | `(tactic| walk_at "side") => `(tactic| first | (dsimp only; omega) | exact ⟨by omega, by omega⟩ | exact Or.inl ⟨by omega, by omega⟩ | exact Or.inr ⟨by omega, by omega⟩ | decide)
local macro_rules | `(tactic| walk_at "sq") => `(tactic| first | assumption | exact SqL.of (by assumption) | exact SqT.of (by assumption) | (refine L2.Same.seq (by assumption) ?_; walk_at "sq") | (refine L2.Same.seqT (by assumption) ?_; walk_at "sq") | exact Or.inl (by walk_at "sq") | exact Or.inr (by walk_at "sq"))
local macro_rules | `(tactic| walk_at "1") => `(tactic| first
  | refine ⟨_, rfl, iteT ?_⟩
  | refine ⟨_, rfl, iteF ?_⟩
  | refine ⟨_, rfl, ?_⟩
  | refine ⟨_, _, rfl, rfl, (by walk_at "side"), ?_⟩
  | refine ⟨_, _, rfl, rfl, ?_⟩
  | refine ⟨_, _, _, _, true, rfl, .ty _, .base (.int _), kit_ty (a := "int") (by decide +kernel), ?_⟩
  | refine ⟨_, _, _, _, false, rfl, .ty _, .base (.int _), kit_ty (a := "int") (by decide +kernel), ?_⟩
  | refine ⟨_, _, rfl, (by walk_at "sq"), ?_⟩
  | refine ⟨_, _, _, _, rfl, rfl, (by walk_at "sq"), (by first | rfl | assumption), ?_⟩
  | refine Or.inl ⟨_, _, _, _, rfl, rfl, (by walk_at "sq"), (by first | rfl | assumption), ?_⟩
  | refine Or.inr (Or.inl ⟨_, _, _, _, rfl, rfl, (by walk_at "sq"), (by first | rfl | assumption), ?_⟩)
  | refine ⟨_, _, rfl, Or.inl ⟨(by walk_at "sq"), ?_⟩⟩
  | refine ⟨rfl, ?_⟩
  | refine iteT ?_
  | refine iteF ?_
  | refine ⟨_, _, _, _, _, rfl, (by assumption), (by assumption), (by assumption), (by assumption), ?_⟩
  | refine Or.inl ⟨_, rfl, ?_⟩
  | refine Or.inr ⟨_, rfl, ?_⟩
  | refine ⟨_, _, rfl, (by walk_at "side"), ?_⟩
  | refine ⟨_, _, rfl, ?_⟩)
local macro_rules | `(tactic| walk_at "fld") => `(tactic| skip)
local macro_rules | `(tactic| walk_at "s") => `(tactic| repeat walk_at "1")
local macro_rules | `(tactic| walk_at "size") => `(tactic| first | exact Nat.le_of_ble_eq_true rfl | (simp only [List.length_map, List.length_append, List.length_cons, List.length_nil]; omega))
local macro_rules | `(tactic| walk_at "new") => `(tactic| (first | refine ⟨(by walk_at "size"), fun p hp => ?_⟩ | refine fun p hp => ?_); (generalize hq : upd _ p _ = H1); (obtain ⟨s, e⟩ := new_facts hp hq); clear hq)
/-! the same tally written otherwise -/
theorem cut_fromA {xs : List V} (t : Nat) : cutV xs (some (t : Int)) none = xs.drop t := by
  unfold cutV
  rw [HT.sIx_nat, HT.sIx_none]
  by_cases h : t ≤ xs.length
  · rw [Nat.min_eq_left h]
    exact List.take_of_length_le (by rw [List.length_drop]; omega)
  · rw [Nat.min_eq_right (by omega), List.drop_of_length_le (Nat.le_refl _), List.drop_of_length_le (by omega), List.take_nil]
theorem cut_toA {xs : List V} (t : Nat) : cutV xs none (some (t : Int)) = xs.take t := by
  unfold cutV
  rw [HT.sIx_nat, HT.sIx_none, List.drop_zero, Nat.sub_zero]
  by_cases h : t ≤ xs.length
  · rw [Nat.min_eq_left h]
  · rw [Nat.min_eq_right (by omega), List.take_length, List.take_of_length_le (by omega)]
section
variable {K : PySem.W.Frag} {σ : L2.St} {G : Hp} {d e : PyData} {ds es : List PyData} {ta tb te ti th : TE} {tr : TA} {v : V} {i n : Nat}
theorem MkL.slTo (h : MkD te σ G (.list ds)) (g : MkD th σ G (.int (n : Nat))) : MkL (tSl (rSlL K) te tNoPart (tPart th)) σ G (ds.take n) := fun G1 H1 Q s1 s2 k =>
  h G1 H1 _ s1 s2 fun x G2 H2 g2 dx => g G2 H2 _ (s1.trans g2.gs) g2.gh fun y G3 H3 g3 dy => by
    have dx := dx.same g3.gs
    cases dy
    cases dx with
    | @lst a xs _ e1 h1 _ =>
      refine ⟨_, rfl, a, xs, rfl, SqL.of (g3.gh _ _ e1), fun p np => ?_⟩
      rw [cut_toA]
      exact k p _ G3 _ ((g2.trans g3).trans (Gr.hold g3.gh np)) ((g2.hs.trans g3.hs).free np) (g3.gh.free np) upd_same (h1.take n)
theorem MkL.slFrom (h : MkD te σ G (.list ds)) (g : MkD th σ G (.int (n : Nat))) : MkL (tSl (rSlL K) te (tPart th) tNoPart) σ G (ds.drop n) := fun G1 H1 Q s1 s2 k =>
  h G1 H1 _ s1 s2 fun x G2 H2 g2 dx => g G2 H2 _ (s1.trans g2.gs) g2.gh fun y G3 H3 g3 dy => by
    have dx := dx.same g3.gs
    cases dy
    cases dx with
    | @lst a xs _ e1 h1 _ =>
      refine ⟨_, rfl, a, xs, rfl, SqL.of (g3.gh _ _ e1), fun p np => ?_⟩
      rw [cut_fromA]
      exact k p _ G3 _ ((g2.trans g3).trans (Gr.hold g3.gh np)) ((g2.hs.trans g3.hs).free np) (g3.gh.free np) upd_same (h1.drop n)
end

def roll (t m : Int) : List Stp × List Sti → List Stp × List Sti
  | (f, []) => (f, [])
  | (f, x :: r) => (f ++ [up x], r ++ [mv t m x])
def rolls (t m : Int) : Nat → List Stp × List Sti → List Stp × List Sti
  | 0, p => p
  | n + 1, p => roll t m (rolls t m n p)
def widen (a : List Sti) (t m : Int) (n : Nat) : List Sti := (List.range n).flatMap fun j : Nat => a.map (mv ((j : Int) * t) ((j : Int) * m))
theorem widen_succ (a : List Sti) (t m : Int) (n : Nat) : widen a t m (n + 1) = widen a t m n ++ a.map (mv ((n : Int) * t) ((n : Int) * m)) := by
  unfold widen
  rw [List.range_succ, List.flatMap_append]
  simp
theorem roll_len (t m : Int) (p : List Stp × List Sti) : (roll t m p).2.length = p.2.length ∧ (roll t m p).1.length ≤ p.1.length + 1 := by
  obtain ⟨f, a⟩ := p
  cases a with
  | nil => exact ⟨rfl, Nat.le_succ _⟩
  | cons x r => exact ⟨by show (r ++ [_]).length = _; rw [List.length_append]; rfl, by show (f ++ [_]).length ≤ _; rw [List.length_append]; exact Nat.le_refl _⟩
theorem rolls_len (t m : Int) (p : List Stp × List Sti) : ∀ n, (rolls t m n p).2.length = p.2.length ∧ (rolls t m n p).1.length ≤ p.1.length + n
  | 0 => ⟨rfl, Nat.le_refl _⟩
  | n + 1 => by
    have h1 := rolls_len t m p n
    have h2 := roll_len t m (rolls t m n p)
    exact ⟨h2.1.trans h1.1, by show (roll t m (rolls t m n p)).1.length ≤ _; omega⟩
theorem widen_len (a : List Sti) (t m : Int) : ∀ n, (widen a t m n).length = n * a.length
  | 0 => by rw [Nat.zero_mul]; rfl
  | n + 1 => by rw [widen_succ, List.length_append, widen_len a t m n, List.length_map, Nat.succ_mul]
def Otherw (f : List Stp) (a : List Sti) (t m : Int) (f' : List Stp) (a' : List Sti) (t' m' : Int) : Prop :=
  (a = [] ∧ f' = f ∧ a' = a ∧ t' = t ∧ m' = m) ∨ (a ≠ [] ∧ ∃ n k : Nat, n < 4 ∧ 1 ≤ k ∧ k ≤ 3 ∧ f' = (rolls t m n (f, a)).1 ∧ a' = widen (rolls t m n (f, a)).2 t m k ∧ t' = t * k ∧ m' = m * k)
theorem gr_off {b : Addr} {H H2 G2 : Hp} (g : Gr (off b H) H G2 H2) (hb : BoxAt H b) : Same G2 (off b H2) := fun c o e => by
  obtain ⟨_, _, _, _, eb⟩ := hb
  have n := g.nn _ _ eb off_at
  rw [off_ne (fun z => by rw [z, n] at e; cases e)]
  exact g.gh _ _ e
def spOther : Sp := fun vs H Q _ => ∃ (b : Addr) (v : V) (u : Option Int) (f : List Stp) (a : List Sti) (t m : Int), vs = [.ref b, v] ∧ BoxAt H b ∧ Dv (off b H) v (rawD u f a t m) ∧ f.length ≤ 10 ∧ a.length ≤ 10 ∧ 0 ≤ t ∧ t < 1000 ∧ 0 ≤ m ∧ m < 1000 ∧
  ∀ H' v' f' a' t' m', Otherw f a t m f' a' t' m' → Bx b H H' → BoxAt H' b → Dv (off b H') v' (rawD u f' a' t' m') → Q v' H'
section
variable {P : Program} {w : World} {K : PySem.W.Frag} {mg : Str → Option Value} {base : Heap}
abbrev s_law_otherwise : Stmt := topS 34
theorem sc_law_otherwise : FnScope ["box", "raw", "under", "first", "again", "turn", "more", "step", "many", "wide", "turns", "time", "count"] ["box", "raw"] (defScope s_law_otherwise) := ⟨rfl, rfl, rfl, by decide +kernel, rfl, by decide +kernel, by decide +kernel⟩
set_option maxHeartbeats 16000000 in
theorem ok_other (D : Df K mg "_law_otherwise" s_law_otherwise ["box", "raw"]) (T : Txt mg) (o_law_take : Own P w K mg base "_law_take" 1 ["box", "many"] spTake) : Own P w K mg base "_law_otherwise" 2 ["box", "raw"] spOther := by
  refine D.own sc_law_otherwise (fun vs H Q E h => ?_) (fun fa cdv A outer s H vs Q E hr h => ?_)
  · obtain ⟨_, _, _, _, _, _, _, rfl, _⟩ := h
    rfl
  · obtain ⟨b, v, u, f, a, t, m, rfl, hb, hd, lf, la, t0, t1, m0, m1, k⟩ := h
    obtain ⟨r, pf, pa, xf, xa, rfl, er, epf, hxf, epa, hxa⟩ := hd.rawE
    refine ⟨_, (pss_cons (ps_asg (pv 1) (pg_tup (by rfl) (pgs_cons (pg_name (i := 2) sc_law_otherwise.nd rfl (Or.inl rfl)) (pgs_cons (pg_name (i := 3) sc_law_otherwise.nd rfl (Or.inl rfl)) (pgs_cons (pg_name (i := 4) sc_law_otherwise.nd rfl (Or.inl rfl)) (pgs_cons (pg_name (i := 5) sc_law_otherwise.nd rfl (Or.inr rfl)) (pgs_cons (pg_name (i := 6) sc_law_otherwise.nd rfl (Or.inr rfl)) pgs_nil)))))))
  (pss_cons (ps_if (pt_cmpR (op_eqD hr.units) (pv 4) (pe_lst pa_nil) (nomark _))
    (pss_one (ps_ret (pv 1)))
    pss_nil)
  (pss_cons (ps_for PassesOwn.never rfl (pi_range1 (by rfl) T.range (pa_cons (pe_own o_law_take (hr.mono (by decide)) (pa_cons (pv 0) (pa_cons pe_int pa_nil))) pa_nil)) (pg_name (i := 7) sc_law_otherwise.nd rfl (Or.inl rfl))
    (pss_one (ps_par (i := 3) (j := 4) (by rfl) sc_law_otherwise.nd rfl rfl (by decide) rfl rfl (pa_cons (pe_op op_cat (pv 3) (pe_slice sl_list (pv 4) po_none (po_some pe_int))) (pa_cons (pe_op op_cat (pe_slice sl_list (pv 4) (po_some pe_int) po_none) (pe_lst (pa_cons (pe_tup (pa_cons (pe_op op_add (pe_ix ix_tup (pe_ix ix_list (pv 4) pe_int (fun _ _ => rfl)) pe_int (fun _ _ => rfl)) (pv 5)) (pa_cons (pe_op op_add (pe_ix ix_tup (pe_ix ix_list (pv 4) pe_int (fun _ _ => rfl)) pe_int (fun _ _ => rfl)) (pv 6)) pa_nil))) pa_nil))) pa_nil)) (by rfl))))
  (pss_cons (ps_par (i := 8) (j := 9) (by rfl) sc_law_otherwise.nd rfl rfl (by decide) rfl rfl (pa_cons (pe_op op_add pe_int (pe_own o_law_take (hr.mono (by decide)) (pa_cons (pv 0) (pa_cons pe_int pa_nil)))) (pa_cons (pe_lst pa_nil) pa_nil)) (by rfl))
  (pss_cons (ps_for PassesOwn.never rfl (pi_range1 (by rfl) T.range (pa_cons (pv 8) pa_nil)) (pg_name (i := 10) sc_law_otherwise.nd rfl (Or.inr rfl))
    (pss_one (ps_set (i := 9) sc_law_otherwise.nd rfl (Or.inl rfl) (pe_op op_cat (pv 9) (pe_lc (own := [("time", 11), ("count", 12)]) (g := gTup K 2 (gCons (gName 11) (gCons (gName 12) gNil))) (tt := tYes) rfl sc_law_otherwise.nd (pi_list (pv 4)) (blkOk_by (own := [("time", 11), ("count", 12)]) (N := ["box", "raw", "under", "first", "again", "turn", "more", "step", "many", "wide", "turns", "time", "count"]) (sc := defScope s_law_otherwise) (by decide +kernel)) (fun _ _ _ _ _ => (pg_tup (by rfl) (pgs_cons (pg_name (i := 11) sc_law_otherwise.nd rfl (Or.inl rfl)) (pgs_cons (pg_name (i := 12) sc_law_otherwise.nd rfl (Or.inl rfl)) pgs_nil)))) (fun _ _ _ _ _ => pts_nil) (fun _ _ _ _ _ => (pe_tup (pa_cons (pe_op op_add (pv 11) (pe_op op_mul (pv 10) (pv 5))) (pa_cons (pe_op op_add (pv 12) (pe_op op_mul (pv 10) (pv 6))) pa_nil)))))))))
  (pss_one (ps_ret (pe_tup (pa_cons (pv 2) (pa_cons (pv 3) (pa_cons (pv 9) (pa_cons (pe_op op_mul (pv 5) (pv 8)) (pa_cons (pe_op op_mul (pv 6) (pv 8)) pa_nil))))))))))))), ?_⟩
    have er' := (off_of er).2
    have epa' := (off_of epa).2
    have lxa := hxa.len
    rw [List.length_map] at lxa
    refine ⟨_, rfl, r, _, rfl, SqT.of er', rfl, _, _, rfl, _, _, rfl, _, _, rfl, _, _, rfl, _, _, rfl, rfl, ?_⟩
    refine ⟨_, rfl, Nat.zero_le _, fun p np => ?_⟩
    have s1 := same_upd (o := .lst []) np
    have dv3 : Dv (off b H) (.ref pf) (.list (f.map stD)) := .lst epf hxf (by rw [List.length_map]; omega)
    have dv4 : Dv (off b H) (.ref pa) (.list (a.map siD)) := .lst epa hxa (by rw [List.length_map]; omega)
    have e1 : Dv (upd H p (.lst [])) (.ref pa) (.list (a.map siD)) := (dv4.same off_same).same s1
    have e2 : Dv (upd H p (.lst [])) (.ref p) (.list (([] : List Sti).map siD)) := .lst upd_same .nil (by decide)
    refine ⟨_, _, e1.dp, e2.dp, shaped_si _, shaped_si _, ?_⟩
    rw [eqv_sil]
    refine ⟨_, rfl, ?_⟩
    have bx1 : Bx b H (upd H p (.lst [])) := Bx.of s1
    have b1 := hb.same s1
    have dv3 := dv3.same (off_bx bx1)
    have dv4 := dv4.same (off_bx bx1)
    have hd := hd.same (off_bx bx1)
    generalize upd H p (.lst []) = H1 at *
    by_cases ha : a = []
    · rw [decide_eq_true ha]
      refine iteT ?_
      exact ⟨_, rfl, k H1 _ f a t m (Or.inl ⟨ha, rfl, rfl, rfl, rfl⟩) bx1 b1 hd⟩
    · rw [decide_eq_false ha]
      refine iteF ?_
      refine ⟨_, rfl, b, 4, rfl, by decide, by decide, b1, fun H2 n hn bx2 b2 => ?_⟩
      refine ⟨n, rfl, by omega, by omega, for_range (lo := 0) (n := n) (fun i σ' H' => ∃ (v3 v4 : V) (y : Option V), σ' = [some (.ref b), some (.ref r), some (cV u), some v3, some v4, some (.int t), some (.int m), y, none, none, none, none, none] ∧ Bx b H H' ∧ BoxAt H' b ∧
          Dv (off b H') v3 (.list ((rolls t m i (f, a)).1.map stD)) ∧ Dv (off b H') v4 (.list ((rolls t m i (f, a)).2.map siD)))
        ⟨_, _, none, rfl, bx1.trans bx2, b2, dv3.same (off_bx bx2), dv4.same (off_bx bx2)⟩ ?_ ?_⟩
      · rintro i σ' H' hi ⟨v3, v4, y, rfl, bx, box, d3, d4⟩
        obtain ⟨hl2, hl1⟩ := rolls_len t m (f, a) i
        obtain ⟨⟨fi, ai⟩, hp⟩ : ∃ q, rolls t m i (f, a) = q := ⟨_, rfl⟩
        rw [hp] at d3 d4 hl1 hl2
        dsimp only at d3 d4 hl1 hl2
        have hl1 : fi.length ≤ f.length + i := hl1
        have hl2 : ai.length = a.length := hl2
        cases ai with
        | nil => exact absurd (List.length_eq_zero_iff.mp hl2.symm) ha
        | cons x rr =>
          have lrr : rr.length + 1 = a.length := hl2
          refine st_par (st_cons ?_)
          have mk1 : ∀ {σ : L2.St}, σ[3]? = some (some v3) → σ[4]? = some (some v4) → MkD _ σ (off b H') (.list ((fi ++ [up x]).map stD)) := fun {σ} h3 h4 => by
            have := (MkL.cat (.var h3 d3) ((MkL.slTo (K := K) (n := 1) (.var h4 d4) (.int 1)).dat (by rw [List.length_take]; exact Nat.le_trans (Nat.min_le_left _ _) (by decide))) (by rw [List.length_map, List.length_take]; have := Nat.min_le_left 1 ((x :: rr).map siD).length; omega)).dat (by rw [List.length_append, List.length_map, List.length_take]; have := Nat.min_le_left 1 ((x :: rr).map siD).length; omega)
            rw [List.map_append]
            exact this
          refine mk1 rfl rfl _ _ _ (Same.refl _) off_same fun w3 G3 H3 g3 e3 => ?_
          refine st_cons ?_
          have d4' := d4.same g3.gs
          have mk2 : ∀ {σ : L2.St}, σ[4]? = some (some v4) → σ[5]? = some (some (.int t)) → σ[6]? = some (some (.int m)) → MkD _ σ G3 (.list ((rr ++ [mv t m x]).map siD)) := fun {σ} h4 h5 h6 => by
            have := (MkL.cat ((MkL.slFrom (K := K) (n := 1) (.var h4 d4') (.int 1)).dat (by rw [List.length_drop, List.length_map]; omega)) (.lst (.cons (.tup (.cons (.add (.ixT (K := K) (n := 0) (.ix (K := K) (n := 0) (.var h4 d4') (.int 0) rfl) (.int 0) rfl) (.var h5 (.int t))) (.cons (.add (.ixT (K := K) (n := 1) (.ix (K := K) (n := 0) (.var h4 d4') (.int 0) rfl) (.int 1) rfl) (.var h6 (.int m))) .nil)) (Nat.le_of_ble_eq_true rfl)) .nil) (Nat.le_of_ble_eq_true rfl)) (by rw [List.length_drop, List.length_map, List.length_singleton]; have : (x :: rr).length = a.length := hl2; omega)).dat (by rw [List.length_append, List.length_drop, List.length_map, List.length_singleton]; have : (x :: rr).length = a.length := hl2; omega)
            rw [List.map_append]
            exact this
          refine mk2 rfl rfl rfl _ _ _ (Same.refl _) g3.gh fun w4 G4 H4 g4 e4 => ?_
          have g34 := g3.trans g4
          have so := gr_off g34 box
          dsimp only [tNil]
          refine ⟨_, _, rfl, w3, w4, some (.int (0 + (i : Int))), rfl, bx.trans (Bx.of g34.hs), box.same g34.hs, ?_, ?_⟩
          · have : (rolls t m (i + 1) (f, a)).1 = fi ++ [up x] := by
              show (roll t m (rolls t m i (f, a))).1 = _
              rw [hp]
              rfl
            rw [this]
            exact (e3.same g4.gs).same so
          · have : (rolls t m (i + 1) (f, a)).2 = rr ++ [mv t m x] := by
              show (roll t m (rolls t m i (f, a))).2 = _
              rw [hp]
              rfl
            rw [this]
            exact e4.same so
      · rintro σ' H' ⟨v3, v4, y, rfl, bx, box, d3, d4⟩
        obtain ⟨hl2, hl1⟩ := rolls_len t m (f, a) n
        have own : ∀ q, q = rolls t m n (f, a) → q.1.length ≤ 14 ∧ q.2.length ≤ 10 := fun q e => by
          rw [e]
          exact ⟨by have : (rolls t m n (f, a)).1.length ≤ f.length + n := hl1; omega, by have : (rolls t m n (f, a)).2.length = a.length := hl2; omega⟩
        obtain ⟨⟨f2, a2⟩, hp⟩ : ∃ q, q = rolls t m n (f, a) := ⟨_, rfl⟩
        obtain ⟨lf2, la2⟩ := own _ hp
        rw [← hp] at d3 d4
        dsimp only at d3 d4 lf2 la2
        obtain ⟨p4, x4, rfl, e4, h4, _⟩ := d4.lstE
        have e4' := (off_of e4).2
        have p4b := (off_of e4).1
        have l4 := h4.len
        rw [List.length_map] at l4
        refine ⟨_, rfl, b, 3, rfl, by decide, by decide, box, fun H3 k0 hk bx3 b3 => ⟨_, _, rfl, rfl, Nat.zero_le _, fun pw npw => ⟨_, _, rfl, ?_⟩⟩⟩
        have s3 := same_upd (o := .lst []) npw
        have bx3' := bx3.trans (Bx.of s3)
        have b3' := b3.same s3
        have pwb : pw ≠ b := b3.ne npw
        refine ⟨_, rfl, k0 + 1, ?_, by omega, by omega, for_range (lo := 0) (n := k0 + 1) (fun i σ' H' => ∃ (vw : V) (y7 y10 : Option V), σ' = [some (.ref b), some (.ref r), some (cV u), some v3, some (.ref p4), some (.int t), some (.int m), y7, some (.int (1 + (k0 : Int))), some vw, y10, none, none] ∧ Bx b H H' ∧ BoxAt H' b ∧
          Dv (off b H') v3 (.list (f2.map stD)) ∧ H' p4 = some (.lst x4) ∧ DvAll (off b H') x4 (a2.map siD) ∧ Dv (off b H') vw (.list ((widen a2 t m i).map siD)))
          ⟨.ref pw, y, none, rfl, bx.trans bx3', b3', d3.same (off_bx bx3'), s3 _ _ (bx3 _ _ p4b e4'), h4.same (off_bx bx3'), .lst (by rw [off_ne pwb, upd_same]) .nil (Nat.zero_le _)⟩ ?_ ?_⟩
        · exact congrArg (fun z => [V.int z]) (by omega : (1 : Int) + (k0 : Int) = (k0 : Int) + 1)
        · rintro i σ' H' hi ⟨vw, y7, y10, rfl, bxi, boxi, di3, ei4, hi4, diw⟩
          obtain ⟨pv, xv, rfl, ev, hv, _⟩ := diw.lstE
          have ev' := (off_of ev).2
          have pvb := (off_of ev).1
          have lv := hv.len
          rw [List.length_map, widen_len] at lv
          have lv' : xv.length ≤ 30 := by
            rw [lv]
            exact Nat.le_trans (Nat.mul_le_mul (by omega : i ≤ 3) la2) (by decide)
          have cm : ∀ j : Int, 0 ≤ j → j < 1000 → CMul (0 + (i : Int)) j := fun j h1 h2 => Or.inr ⟨by omega, by omega⟩
          refine ⟨_, rfl, _, rfl, p4, rfl, ⟨_, SqL.of ei4⟩, fun L nL => lc_seq (seqIt_l (SqL.of ei4)) (fun j H2 => Same H' H2 ∧ ∃ acc, H2 L = some (.lst acc) ∧ DvAll (off L (off b H2)) acc (((a2.take j).map (mv ((i : Int) * t) ((i : Int) * m))).map siD)) ⟨same_upd nL, [], upd_same, .nil⟩ (fun j H2 q => q.1) ?_ ?_⟩
          · rintro j z H2 hj ⟨s2, acc, eL, hA⟩
            have Lb : L ≠ b := boxi.ne nL
            obtain ⟨d, hd2, hz⟩ := hi4.get hj
            rw [List.getElem?_map] at hd2
            obtain ⟨q, hq, rfl⟩ := Option.map_eq_some_iff.mp hd2
            obtain ⟨pq, rfl, epq⟩ := dv_si (hz.same (off_off s2))
            have hj' : j < a2.length := (List.getElem?_eq_some_iff.mp hq).1
            have hal : acc.length = j := by
              rw [hA.len, List.length_map, List.length_map, List.length_take]
              omega
            refine ⟨pq, _, rfl, SqT.of (off_of epq).2, rfl, _, _, rfl, _, _, rfl, rfl, rfl, ?_⟩
            refine ⟨_, rfl, _, rfl, _, rfl, _, _, rfl, rfl, cm _ t0 t1, _, _, rfl, rfl, _, rfl, _, rfl, _, rfl, _, _, rfl, rfl, cm _ m0 m1, _, _, rfl, rfl, Nat.le_of_ble_eq_true rfl, fun pt npt => ?_⟩
            have ne : pt ≠ L := fun w => by rw [w, eL] at npt; cases npt
            have ptb : pt ≠ b := (boxi.same s2).ne npt
            refine ⟨acc, ?_, small2000 (by omega), (s2.trans (same_upd npt)).upd1 nL, acc ++ [.ref pt], upd_same, ?_⟩
            · rw [upd_ne ne.symm]
              exact eL
            · rw [off_upd_ne Lb, off_upd_ne ptb, off_upd, off_upd_ne ne, List.take_add_one, hq, List.map_append, List.map_append]
              have s5 : Same (off L (off b H2)) (upd (off L (off b H2)) pt (.tup [.int (q.1 + (0 + (i : Int)) * t), .int (q.2 + (0 + (i : Int)) * m)])) := same_upd (off_none (off_none npt))
              refine (hA.same s5).app (.cons (si_dv (x := mv ((i : Int) * t) ((i : Int) * m) q) ?_) .nil)
              rw [upd_same, Int.zero_add]
              rfl
          · rintro H2 ⟨s2, acc, eL, hA⟩
            rw [l4, List.take_length] at hA
            have Lb : L ≠ b := boxi.ne nL
            have hal : acc.length = a2.length := by rw [hA.len, List.length_map, List.length_map]
            refine ⟨pv, L, xv, acc, rfl, rfl, s2 _ _ ev', eL, Nat.le_of_lt (small2000 (by omega)), fun pn npn => ?_⟩
            have s3 := s2.trans (same_upd (o := .lst (xv ++ acc)) npn)
            have pnb : pn ≠ b := (boxi.same s2).ne npn
            refine ⟨.ref pn, y7, some (.int (0 + (i : Int))), rfl, bxi.trans (Bx.of s3), boxi.same s3, di3.same (off_off s3), s3 _ _ ei4, hi4.same (off_off s3), ?_⟩
            rw [widen_succ, List.map_append]
            refine .lst (by rw [off_ne pnb, upd_same]) ((hv.same (off_off s3)).app ((hA.same off_same).same (off_off (same_upd npn)))) ?_
            rw [List.length_append, List.length_map, List.length_map, List.length_map, widen_len, ← lv]
            omega
        · rintro σ' H' ⟨vw, y7, y10, rfl, bxi, boxi, di3, ei4, hi4, diw⟩
          have cm : ∀ j : Int, CMul j (1 + (k0 : Int)) := fun j => Or.inr ⟨by omega, by omega⟩
          refine ⟨_, rfl, _, rfl, _, rfl, _, rfl, _, rfl, _, _, rfl, rfl, cm _, _, rfl, _, rfl, _, _, rfl, rfl, cm _, Nat.le_of_ble_eq_true rfl, fun pn npn => ?_⟩
          have s3 := same_upd (o := .tup [cV u, v3, vw, .int (t * (1 + (k0 : Int))), .int (m * (1 + (k0 : Int)))]) npn
          have pnb : pn ≠ b := boxi.ne npn
          have ek : ((k0 + 1 : Nat) : Int) = 1 + (k0 : Int) := by omega
          refine k _ (.ref pn) f2 (widen a2 t m (k0 + 1)) (t * (1 + (k0 : Int))) (m * (1 + (k0 : Int))) (Or.inr ⟨ha, n, k0 + 1, hn, by omega, by omega, by rw [← hp], by rw [← hp], by rw [ek], by rw [ek]⟩) (bxi.trans (Bx.of s3)) (boxi.same s3) ?_
          exact .tup (by rw [off_ne pnb, upd_same]) (.cons (cV_dv _) (.cons (di3.same (off_off s3)) (.cons (diw.same (off_off s3)) (.cons (.int _) (.cons (.int _) .nil))))) (by show 5 ≤ 2000; decide)
end
end My

namespace My
open PySem PySem.Spec PyProof.Rows L2
local macro_rules | `(tactic| walk_at "side") => `(tactic| first | (dsimp only; omega) | exact ⟨by omega, by omega⟩ | exact Or.inl ⟨by omega, by omega⟩ | exact Or.inr ⟨by omega, by omega⟩ | decide)
local macro_rules | `(tactic| walk_at "sq") => `(tactic| first | assumption | exact SqL.of (by assumption) | exact SqT.of (by assumption) | (refine L2.Same.seq (by assumption) ?_; walk_at "sq") | (refine L2.Same.seqT (by assumption) ?_; walk_at "sq") | exact Or.inl (by walk_at "sq") | exact Or.inr (by walk_at "sq"))
local macro_rules | `(tactic| walk_at "1") => `(tactic| first
  | refine ⟨_, rfl, iteT ?_⟩
  | refine ⟨_, rfl, iteF ?_⟩
  | refine ⟨_, rfl, ?_⟩
  | refine ⟨_, _, rfl, rfl, (by walk_at "side"), ?_⟩
  | refine ⟨_, _, rfl, rfl, ?_⟩
  | refine ⟨_, _, _, _, true, rfl, .ty _, .base (.int _), kit_ty (a := "int") (by decide +kernel), ?_⟩
  | refine ⟨_, _, _, _, false, rfl, .ty _, .base (.int _), kit_ty (a := "int") (by decide +kernel), ?_⟩
  | refine ⟨_, _, rfl, (by walk_at "sq"), ?_⟩
  | refine ⟨_, _, _, _, rfl, rfl, (by walk_at "sq"), (by first | rfl | assumption), ?_⟩
  | refine Or.inl ⟨_, _, _, _, rfl, rfl, (by walk_at "sq"), (by first | rfl | assumption), ?_⟩
  | refine Or.inr (Or.inl ⟨_, _, _, _, rfl, rfl, (by walk_at "sq"), (by first | rfl | assumption), ?_⟩)
  | refine ⟨_, _, rfl, Or.inl ⟨(by walk_at "sq"), ?_⟩⟩
  | refine ⟨rfl, ?_⟩
  | refine iteT ?_
  | refine iteF ?_
  | refine ⟨_, _, _, _, _, rfl, (by assumption), (by assumption), (by assumption), (by assumption), ?_⟩
  | refine Or.inl ⟨_, rfl, ?_⟩
  | refine Or.inr ⟨_, rfl, ?_⟩
  | refine ⟨_, _, rfl, (by walk_at "side"), ?_⟩
  | refine ⟨_, _, rfl, ?_⟩)
local macro_rules | `(tactic| walk_at "fld") => `(tactic| skip)
local macro_rules | `(tactic| walk_at "s") => `(tactic| repeat walk_at "1")
local macro_rules | `(tactic| walk_at "size") => `(tactic| first | exact Nat.le_of_ble_eq_true rfl | (simp only [List.length_map, List.length_append, List.length_cons, List.length_nil]; omega))
local macro_rules | `(tactic| walk_at "new") => `(tactic| (first | refine ⟨(by walk_at "size"), fun p hp => ?_⟩ | refine fun p hp => ?_); (generalize hq : upd _ p _ = H1); (obtain ⟨s, e⟩ := new_facts hp hq); clear hq)
/-! whether a form is the least -/
def wideL (a : List Sti) (t m : Int) : List Sti := a ++ a.map (mv t m)
def gapL (a : List Sti) (t m : Int) (k i : Nat) : Sti := ((((wideL a t m)[i + k]?).getD (0, 0)).1 - (((wideL a t m)[i]?).getD (0, 0)).1, (((wideL a t m)[i + k]?).getD (0, 0)).2 - (((wideL a t m)[i]?).getD (0, 0)).2)
structure CanonL (f : List Stp) (a : List Sti) (t m : Int) : Prop where
  zero : a = [] → t = 0 ∧ m = 0
  nn : a ≠ [] → ∀ x ∈ f, x.2 ≠ none
  c1 : ∀ k, 1 ≤ k → k < a.length → a.length % k = 0 → ∃ i, i < a.length ∧ gapL a t m k i ≠ gapL a t m k 0
  c2 : a ≠ [] → ∀ x y, f.getLast? = some x → a.getLast? = some y → mvS t m x ≠ up y
def spLeast (C : Addr) : Sp := fun vs H Q _ => ∃ (p : Addr) (u : Option Int) (f : List Stp) (a : List Sti) (t m : Int), vs = [.ref p] ∧ TalAt C H p u f a t m ∧ f.length ≤ 1000 ∧ a.length ≤ 1000 ∧ CanonL f a t m ∧ ∀ H', Same H H' → Q (.bl true) H'
section
variable {P : Program} {w : World} {K : PySem.W.Frag} {mg : Str → Option Value} {base : Heap} {C : Addr}
abbrev s_law_is_least : Stmt := topS 35
theorem sc_law_is_least : FnScope ["made", "first", "again", "wide", "many", "gaps", "time", "count", "at", "gap"] ["made"] (defScope s_law_is_least) := ⟨rfl, rfl, rfl, by decide +kernel, rfl, by decide +kernel, by decide +kernel⟩
set_option maxHeartbeats 16000000 in
theorem ok_least (D : Df K mg "_law_is_least" s_law_is_least ["made"]) (T : Txt mg) (R : TalCls K C) : Own P w K mg base "_law_is_least" 1 ["made"] (spLeast C) := by
  refine D.own sc_law_is_least (fun vs H Q E h => ?_) (fun fa cdv A outer s H vs Q E hr h => ?_)
  · obtain ⟨_, _, _, _, _, _, rfl, _⟩ := h
    rfl
  · obtain ⟨p, u, f, a, t, m, rfl, ⟨dx, pf, pa, xf, xa, h1, h2, h3, h4, h5⟩, lf, la, cn, k⟩ := h
    refine ⟨_, (pss_cons (ps_par (i := 1) (j := 2) (by rfl) sc_law_is_least.nd rfl rfl (by decide) rfl rfl (pa_cons (pe_callTy call_list_of (by rfl) T.list (by decide +kernel) (pa_cons (pe_fld (pv 0) rfl) pa_nil)) (pa_cons (pe_callTy call_list_of (by rfl) T.list (by decide +kernel) (pa_cons (pe_fld (pv 0) rfl) pa_nil)) pa_nil)) (by rfl))
  (pss_cons (ps_if (pt_cmpR (op_eqD hr.units) (pv 2) (pe_lst pa_nil) (nomark _))
    (pss_one (ps_ret (pe_and (pe_cmpR op_eq (pe_fld (pv 0) rfl) pe_int (nomark _)) (pe_one (pe_cmpR op_eq (pe_fld (pv 0) rfl) pe_int (nomark _))))))
    pss_nil)
  (C8.pss_cut (ps_set (i := 3) sc_law_is_least.nd rfl (Or.inr rfl) (pe_op op_cat (pv 2) (pe_lc (own := [("time", 6), ("count", 7)]) (te := tTup (tCons (tOp (rI0 fun i j => .int (i + j)) (tVar 6) (tFld K (tVar 0) "turn")) (tCons (tOp (rI0 fun i j => .int (i + j)) (tVar 7) (tFld K (tVar 0) "more")) tNil))) (g := gTup K 2 (gCons (gName 6) (gCons (gName 7) gNil))) (tt := tYes) rfl sc_law_is_least.nd (pi_list (pv 2)) (blkOk_by (own := [("time", 6), ("count", 7)]) (N := ["made", "first", "again", "wide", "many", "gaps", "time", "count", "at", "gap"]) (sc := defScope s_law_is_least) (by decide +kernel)) (fun _ _ _ _ _ => (pg_tup (by rfl) (pgs_cons (pg_name (i := 6) sc_law_is_least.nd rfl (Or.inl rfl)) (pgs_cons (pg_name (i := 7) sc_law_is_least.nd rfl (Or.inl rfl)) pgs_nil)))) (fun _ _ _ _ _ => pts_nil) (fun _ _ _ _ _ => (pe_tup (pa_cons (pe_op op_add (pv 6) (pe_fld (pv 0) rfl)) (pa_cons (pe_op op_add (pv 7) (pe_fld (pv 0) rfl)) pa_nil)))))))
  (pss_cons (ps_for PassesOwn.never rfl (pi_range2 (by rfl) T.range (pa_cons pe_int (pa_cons (pe_callB call_len_seq (by rfl) T.len PySem.boot_len (pa_cons (pv 2) pa_nil)) pa_nil))) (pg_name (i := 4) sc_law_is_least.nd rfl (Or.inr rfl))
    (C8.pss_cut (ps_set (i := 5) sc_law_is_least.nd rfl (Or.inr rfl) (pe_lc (own := [("at", 8)]) (te := tTup (tCons (tOp (rI0 fun i j => .int (i - j)) (tOp (rIxT K) (tOp (rIxL K) (tVar 3) (tOp (rI0 fun i j => .int (i + j)) (tVar 8) (tVar 4))) (tC (.int 0))) (tOp (rIxT K) (tOp (rIxL K) (tVar 3) (tVar 8)) (tC (.int 0)))) (tCons (tOp (rI0 fun i j => .int (i - j)) (tOp (rIxT K) (tOp (rIxL K) (tVar 3) (tOp (rI0 fun i j => .int (i + j)) (tVar 8) (tVar 4))) (tC (.int 1))) (tOp (rIxT K) (tOp (rIxL K) (tVar 3) (tVar 8)) (tC (.int 1)))) tNil))) (g := gName 8) (tt := tYes) rfl sc_law_is_least.nd (pi_range1 (by rfl) T.range (pa_cons (pe_callB call_len_seq (by rfl) T.len PySem.boot_len (pa_cons (pv 2) pa_nil)) pa_nil)) (blkOk_by (own := [("at", 8)]) (N := ["made", "first", "again", "wide", "many", "gaps", "time", "count", "at", "gap"]) (sc := defScope s_law_is_least) (by decide +kernel)) (fun _ _ _ _ _ => (pg_name (i := 8) sc_law_is_least.nd rfl (Or.inl rfl))) (fun _ _ _ _ _ => pts_nil) (fun _ _ _ _ _ => (pe_tup (pa_cons (pe_op op_sub (pe_ix ix_tup (pe_ix ix_list (pv 3) (pe_op op_add (pv 8) (pv 4)) (fun _ _ => rfl)) pe_int (fun _ _ => rfl)) (pe_ix ix_tup (pe_ix ix_list (pv 3) (pv 8) (fun _ _ => rfl)) pe_int (fun _ _ => rfl))) (pa_cons (pe_op op_sub (pe_ix ix_tup (pe_ix ix_list (pv 3) (pe_op op_add (pv 8) (pv 4)) (fun _ _ => rfl)) pe_int (fun _ _ => rfl)) (pe_ix ix_tup (pe_ix ix_list (pv 3) (pv 8) (fun _ _ => rfl)) pe_int (fun _ _ => rfl))) pa_nil))))))
      (pss_one (ps_if (PW.pt (pw_and (pt_cmpR op_eq (pe_op op_mod (pe_callB call_len_seq (by rfl) T.len PySem.boot_len (pa_cons (pv 2) pa_nil)) (pv 4)) pe_int (nomark _)) (pw_and1 (pt_cmpR (op_eqD hr.units) (pe_lc (own := [("gap", 9)]) (g := gName 9) (tt := tTest (tOp (rNeD K) (tVar 9) (tOp (rIxL K) (tVar 5) (tC (.int 0))))) rfl sc_law_is_least.nd (pi_list (pv 5)) (blkOk_by (own := [("gap", 9)]) (N := ["made", "first", "again", "wide", "many", "gaps", "time", "count", "at", "gap"]) (sc := defScope s_law_is_least) (by decide +kernel)) (fun _ _ _ _ _ => (pg_name (i := 9) sc_law_is_least.nd rfl (Or.inl rfl))) (fun _ _ _ _ _ => (pts_one (pt_cmpR (op_neD hr.units) (pv 9) (pe_ix ix_list (pv 5) pe_int (fun _ _ => rfl)) (nomark _)))) (fun _ _ _ _ _ => (pv 9))) (pe_lst pa_nil) (nomark _)))))
        (pss_one (ps_ret pe_bl))
        pss_nil))))
  (pss_one (ps_ret (pe_or (pe_cmpR (op_eqD hr.units) (pv 1) (pe_lst pa_nil) (nomark _)) (pe_one (pe_cmpR (op_neD hr.units) (pe_tup (pa_cons (pe_op op_add (pe_ix ix_tup (pe_ix ix_list (pv 1) (pe_un un_neg pe_int) (fun _ _ => rfl)) pe_int (fun _ _ => rfl)) (pe_fld (pv 0) rfl)) (pa_cons (pe_op op_add (pe_ix ix_tup (pe_ix ix_list (pv 1) (pe_un un_neg pe_int) (fun _ _ => rfl)) pe_int (fun _ _ => rfl)) (pe_fld (pv 0) rfl)) pa_nil))) (pe_ix ix_list (pv 2) (pe_un un_neg pe_int) (fun _ _ => rfl)) (nomark _)))))))))), ?_⟩
    have lxa := h5.len
    have lxf := h3.len
    rw [List.length_map] at lxa lxf
    have ltu : (talF u pf pa t m).lookup ("under" : Str) = some (cV u) := rfl
    have ltf : (talF u pf pa t m).lookup ("first" : Str) = some (.ref pf) := rfl
    have lta : (talF u pf pa t m).lookup ("again" : Str) = some (.ref pa) := rfl
    have ltt : (talF u pf pa t m).lookup ("turn" : Str) = some (.int t) := rfl
    have ltm : (talF u pf pa t m).lookup ("more" : Str) = some (.int m) := rfl
    refine ⟨_, rfl, p, C, dx, _, _, rfl, h1, R.cl, R.nF, ltf, pf, xf, rfl, Or.inr (SqT.of h2), fun l1 n1 => ?_⟩
    generalize hq : upd H l1 _ = H1
    obtain ⟨s1, e1⟩ := new_facts n1 hq
    clear hq
    refine ⟨_, rfl, p, C, dx, _, _, rfl, s1 _ _ h1, R.cl, R.nA, lta, pa, xa, rfl, Or.inr (SqT.of (s1 _ _ h4)), fun l2 n2 => ⟨_, _, rfl, ?_⟩⟩
    generalize hq : upd H1 l2 _ = H2
    obtain ⟨s2, e2⟩ := new_facts n2 hq
    clear hq
    refine ⟨_, rfl, Nat.zero_le _, fun l3 n3 => ?_⟩
    generalize hq : upd H2 l3 _ = H3
    obtain ⟨s3, e3⟩ := new_facts n3 hq
    clear hq
    have s13 := s1.trans (s2.trans s3)
    have d1 : Dv H3 (.ref l2) (.list (a.map siD)) := .lst (s3 _ _ e2) (h5.same s13) (by rw [List.length_map]; omega)
    have d2 : Dv H3 (.ref l3) (.list (([] : List Sti).map siD)) := .lst e3 .nil (by decide)
    have d3 : Dv H3 (.ref l1) (.list (f.map stD)) := .lst (s3 _ _ (s2 _ _ e1)) (h3.same s13) (by rw [List.length_map]; omega)
    refine ⟨_, _, d1.dp, d2.dp, shaped_si _, shaped_si _, ?_⟩
    rw [eqv_sil]
    refine ⟨_, rfl, ?_⟩
    have h1 := s13 _ _ h1
    have k3 : ∀ H', Same H3 H' → Q (.bl true) H' := fun H' s => k H' (s13.trans s)
    have el2 := s3 _ _ e2
    have el1 := s3 _ _ (s2 _ _ e1)
    have hxa := h5.same s13
    have hxf := h3.same s13
    clear k s1 s2 s3 s13 e1 e2 e3 n1 n2 n3 h2 h3 h4 h5
    by_cases ha : a = []
    · rw [decide_eq_true ha]
      refine iteT ?_
      obtain ⟨rfl, rfl⟩ := cn.zero ha
      refine ⟨_, rfl, p, C, dx, _, _, rfl, h1, R.cl, R.nT, ltt, rfl, _, rfl, ?_⟩
      refine iteT ?_
      exact ⟨_, rfl, p, C, dx, _, _, rfl, h1, R.cl, R.nM, ltm, rfl, k3 _ (Same.refl _)⟩
    · rw [decide_eq_false ha]
      refine iteF ?_
      refine ⟨fun σ' H' => ∃ (lw : Addr) (xw : List V), σ' = [some (.ref p), some (.ref l1), some (.ref l2), some (.ref lw), none, none, none, none, none, none] ∧ Same H3 H' ∧ H' lw = some (.lst xw) ∧ DvAll H' xw ((wideL a t m).map siD), ?_, ?_⟩
      · refine ⟨_, rfl, _, rfl, l2, rfl, ⟨_, SqL.of el2⟩, fun L nL => lc_seq (seqIt_l (SqL.of el2)) (fun j H' => Same H3 H' ∧ ∃ acc, H' L = some (.lst acc) ∧ DvAll (off L H') acc (((a.take j).map (mv t m)).map siD)) ⟨same_upd nL, [], upd_same, .nil⟩ (fun j H' q => q.1) ?_ ?_⟩
        · rintro j z H' hj ⟨s', acc, eL, hA⟩
          obtain ⟨d, hd2, hz⟩ := hxa.get hj
          rw [List.getElem?_map] at hd2
          obtain ⟨q, hq, rfl⟩ := Option.map_eq_some_iff.mp hd2
          obtain ⟨pq, rfl, epq⟩ := dv_si (hz.same s')
          have hj' : j < a.length := (List.getElem?_eq_some_iff.mp hq).1
          have hal : acc.length = j := by
            rw [hA.len, List.length_map, List.length_map, List.length_take]
            omega
          refine ⟨pq, _, rfl, SqT.of epq, rfl, _, _, rfl, _, _, rfl, rfl, rfl, ?_⟩
          refine ⟨_, rfl, _, rfl, p, C, dx, _, _, rfl, s' _ _ h1, R.cl, R.nT, ltt, _, _, rfl, rfl, _, rfl, _, rfl, p, C, dx, _, _, rfl, s' _ _ h1, R.cl, R.nM, ltm, _, _, rfl, rfl, Nat.le_of_ble_eq_true rfl, fun pt npt => ?_⟩
          have ne : pt ≠ L := fun w => by rw [w, eL] at npt; cases npt
          refine ⟨acc, ?_, small2000 (by omega), (s'.trans (same_upd npt)).upd1 nL, acc ++ [.ref pt], upd_same, ?_⟩
          · rw [upd_ne ne.symm]
            exact eL
          · rw [off_upd, off_upd_ne ne, List.take_add_one, hq, List.map_append, List.map_append]
            exact (hA.same (same_upd (off_none npt))).app (.cons (si_dv (x := mv t m q) upd_same) .nil)
        · rintro H' ⟨s', acc, eL, hA⟩
          have ll2 : (xa : List V).length = a.length := lxa
          rw [ll2, List.take_length] at hA
          have hal : acc.length = a.length := by rw [hA.len, List.length_map, List.length_map]
          refine ⟨l2, L, xa, acc, rfl, rfl, s' _ _ el2, eL, Nat.le_of_lt (small2000 (by omega)), fun pn npn => ?_⟩
          have sn := same_upd (o := .lst (xa ++ acc)) npn
          refine ⟨pn, xa ++ acc, rfl, s'.trans sn, upd_same, ?_⟩
          rw [wideL, List.map_append]
          exact (hxa.same (s'.trans sn)).app ((hA.same off_same).same sn)
      · rintro σ' H4 ⟨lw, xw, rfl, s4, ew, hw⟩
        have k4 : ∀ H', Same H4 H' → Q (.bl true) H' := fun H' s => k3 H' (s4.trans s)
        have h1 := s4 _ _ h1
        have el1 := s4 _ _ el1
        have el2 := s4 _ _ el2
        have hxa := hxa.same s4
        have hxf := hxf.same s4
        have l0 : 0 < a.length := List.length_pos_iff.mpr ha
        have lww : (wideL a t m).length = a.length + a.length := by rw [wideL, List.length_append, List.length_map]
        clear k3 s4 d1 d2 d3
        refine ⟨_, rfl, l2, xa, rfl, Or.inl (SqL.of el2), 1, a.length, ?_, ⟨by decide, by decide, by omega, by omega⟩, for_range (lo := 1) (n := ((a.length : Int) - 1).toNat) (fun i σ H' => ∃ y4 y5 y6 y7 y8 y9 : Option V, σ = [some (.ref p), some (.ref l1), some (.ref l2), some (.ref lw), y4, y5, y6, y7, y8, y9] ∧ Same H4 H')
          ⟨_, _, _, _, _, _, rfl, Same.refl _⟩ ?_ ?_⟩
        · rw [lxa]
        · rintro i σ' H5 hi ⟨y4, y5, y6, y7, y8, y9, rfl, s5⟩
          have hi1 : i + 1 < a.length := by omega
          obtain ⟨gs, hgs⟩ : ∃ gs, gs = (List.range a.length).map (gapL a t m (i + 1)) := ⟨_, rfl⟩
          have lgs : gs.length = a.length := by rw [hgs, List.length_map, List.length_range]
          refine ⟨fun σ' H' => ∃ (lg : Addr) (xg : List V), σ' = [some (.ref p), some (.ref l1), some (.ref l2), some (.ref lw), some (.int (1 + (i : Int))), some (.ref lg), y6, y7, y8, y9] ∧ Same H5 H' ∧ H' lg = some (.lst xg) ∧ DvAll H' xg (gs.map siD), ?_, ?_⟩
          · refine ⟨_, rfl, l2, xa, rfl, Or.inl (SqL.of (s5 _ _ el2)), a.length, ?_, by omega, by omega, fun L nL => lc_range (lo := 0) (n := a.length) (fun j H' => Same H5 H' ∧ ∃ acc, H' L = some (.lst acc) ∧ DvAll (off L H') acc (((List.range j).map (gapL a t m (i + 1))).map siD)) ⟨same_upd nL, [], upd_same, .nil⟩ ?_ ?_⟩
            · rw [lxa]
            · rintro j H' hj ⟨s', acc, eL, hA⟩
              have hw' := (hw.same s5).same s'
              have ew' := s' _ _ (s5 _ _ ew)
              have lk1 : j + (i + 1) < (wideL a t m).length := by omega
              have lk2 : j < (wideL a t m).length := by omega
              obtain ⟨v1, hv1, dv1⟩ := hw'.at (i := j + (i + 1)) (d := siD (wideL a t m)[j + (i + 1)]) (by rw [List.getElem?_map, List.getElem?_eq_getElem lk1]; rfl)
              obtain ⟨v2, hv2, dv2⟩ := hw'.at (i := j) (d := siD (wideL a t m)[j]) (by rw [List.getElem?_map, List.getElem?_eq_getElem lk2]; rfl)
              obtain ⟨q1, rfl, eq1⟩ := dv_si dv1
              obtain ⟨q2, rfl, eq2⟩ := dv_si dv2
              have a1 : (0 : Int) + (j : Int) + (1 + (i : Int)) = ((j + (i + 1) : Nat) : Int) := by omega
              have a2 : (0 : Int) + (j : Int) = ((j : Nat) : Int) := by omega
              have hal : acc.length = j := by
                rw [hA.len, List.length_map, List.length_map, List.length_range]
              have eg : gapL a t m (i + 1) j = ((wideL a t m)[j + (i + 1)].1 - (wideL a t m)[j].1, (wideL a t m)[j + (i + 1)].2 - (wideL a t m)[j].2) := by
                unfold gapL
                rw [List.getElem?_eq_getElem lk1, List.getElem?_eq_getElem lk2]
                rfl
              refine ⟨rfl, ?_⟩
              refine ⟨_, rfl, _, rfl, _, rfl, _, _, rfl, rfl, _, _, _, _, rfl, rfl, SqL.of ew', at_of a1 hv1, _, _, _, _, rfl, rfl, SqT.of eq1, rfl, _, rfl, _, rfl, _, _, _, _, rfl, rfl, SqL.of ew', at_of a2 hv2, _, _, _, _, rfl, rfl, SqT.of eq2, rfl, _, _, rfl, rfl, ?_⟩
              refine ⟨_, rfl, _, rfl, _, rfl, _, _, rfl, rfl, _, _, _, _, rfl, rfl, SqL.of ew', at_of a1 hv1, _, _, _, _, rfl, rfl, SqT.of eq1, rfl, _, rfl, _, rfl, _, _, _, _, rfl, rfl, SqL.of ew', at_of a2 hv2, _, _, _, _, rfl, rfl, SqT.of eq2, rfl, _, _, rfl, rfl, Nat.le_of_ble_eq_true rfl, fun pt npt => ?_⟩
              have ne : pt ≠ L := fun w => by rw [w, eL] at npt; cases npt
              refine ⟨acc, ?_, small2000 (by omega), (s'.trans (same_upd npt)).upd1 nL, acc ++ [.ref pt], upd_same, ?_⟩
              · rw [upd_ne ne.symm]
                exact eL
              · rw [off_upd, off_upd_ne ne, List.range_succ, List.map_append, List.map_append]
                refine (hA.same (same_upd (off_none npt))).app (.cons (si_dv (x := gapL a t m (i + 1) j) ?_) .nil)
                rw [upd_same, eg]
            · rintro H' ⟨s', acc, eL, hA⟩
              rw [← hgs] at hA
              exact ⟨L, acc, rfl, s', eL, hA.same off_same⟩
          · rintro σ' H6 ⟨lg, xg, rfl, s6, eg, hg⟩
            have s46 := s5.trans s6
            have nxt : ∀ H', Same H6 H' → ∃ z4 z5 z6 z7 z8 z9 : Option V, [some (V.ref p), some (V.ref l1), some (V.ref l2), some (V.ref lw), some (V.int (1 + (i : Int))), some (V.ref lg), y6, y7, y8, y9] = [some (V.ref p), some (V.ref l1), some (V.ref l2), some (V.ref lw), z4, z5, z6, z7, z8, z9] ∧ Same H4 H' := fun H' s => ⟨_, _, _, _, _, _, rfl, s46.trans s⟩
            refine ⟨_, rfl, l2, xa, rfl, Or.inl (SqL.of (s46 _ _ el2)), _, rfl, _, _, rfl, rfl, by omega, rfl, _, rfl, ?_⟩
            refine ite2 (fun c => ?_) (fun c => ?_)
            · have hm : a.length % (i + 1) = 0 := by
                have := V.int.inj (of_decide_eq_true c)
                rw [lxa, show (1 : Int) + (i : Int) = ((i + 1 : Nat) : Int) by omega, ← Int.natCast_emod] at this
                exact Int.ofNat.inj this
              obtain ⟨i0, hi0, hne⟩ := cn.c1 (i + 1) (by omega) hi1 hm
              have lxg : xg.length = gs.length := by have := hg.len; rw [List.length_map] at this; exact this
              have g0 : gs[0]? = some (gapL a t m (i + 1) 0) := by
                rw [hgs, List.getElem?_map, List.getElem?_range l0]
                rfl
              obtain ⟨w0, hw0, dw0⟩ := hg.at (i := 0) (d := siD (gapL a t m (i + 1) 0)) (by rw [List.getElem?_map, g0]; rfl)
              refine ⟨_, rfl, lg, rfl, ⟨_, SqL.of eg⟩, fun L nL => lc_seq (seqIt_l (SqL.of eg)) (fun j H' => Same H6 H' ∧ ∃ acc, H' L = some (.lst acc) ∧ acc.length ≤ j ∧ DvAll (off L H') acc (((gs.take j).filter fun x => decide (x ≠ gapL a t m (i + 1) 0)).map siD)) ⟨same_upd nL, [], upd_same, Nat.zero_le _, .nil⟩ (fun j H' q => q.1) ?_ ?_⟩
              · rintro j z H' hj ⟨s', acc, eL, lac, hA⟩
                obtain ⟨d, hd2, hz⟩ := hg.get hj
                rw [List.getElem?_map] at hd2
                obtain ⟨q, hq, rfl⟩ := Option.map_eq_some_iff.mp hd2
                have hj' : j < gs.length := (List.getElem?_eq_some_iff.mp hq).1
                have dz := hz.same s'
                have dw := dw0.same s'
                have sone : ∀ x : Sti, SeqAt.shaped (siD x) = true := fun x => rfl
                refine ⟨rfl, _, rfl, _, rfl, _, _, _, _, rfl, rfl, SqL.of (s' _ _ eg), atI_nat hw0, ?_⟩
                refine ⟨_, _, dz.dp, dw.dp, sone _, sone _, _, rfl, ?_⟩
                rw [eqv_si]
                have et : gs.take (j + 1) = gs.take j ++ [q] := by rw [List.take_add_one, hq]; rfl
                by_cases hqe : q = gapL a t m (i + 1) 0
                · rw [decide_eq_true hqe]
                  refine iteF ?_
                  refine ⟨s', acc, eL, by omega, ?_⟩
                  rw [et, List.filter_append, List.filter_cons_of_neg (by rw [hqe]; simp), List.filter_nil, List.append_nil]
                  exact hA
                · rw [decide_eq_false hqe]
                  refine iteT ?_
                  refine ⟨_, rfl, acc, eL, small2000 (by omega), s'.upd1 nL, acc ++ [z], upd_same, by rw [List.length_append, List.length_singleton]; omega, ?_⟩
                  rw [off_upd, et, List.filter_append, List.filter_cons_of_pos (by simp [hqe]), List.filter_nil, List.map_append]
                  exact hA.app (.cons (hz.same (off_to s' nL)) .nil)
              · rintro H' ⟨s', acc, eL, lac, hA⟩
                rw [lxg, List.take_length] at hA
                refine ⟨Nat.zero_le _, fun pn npn => ?_⟩
                have sn := same_upd (o := .lst []) npn
                have d1 : Dv (upd H' pn (.lst [])) (.ref L) (.list ((gs.filter fun x => decide (x ≠ gapL a t m (i + 1) 0)).map siD)) := .lst (sn _ _ eL) ((hA.same off_same).same sn) (by rw [List.length_map]; have := List.length_filter_le (fun x => decide (x ≠ gapL a t m (i + 1) 0)) gs; omega)
                have d2 : Dv (upd H' pn (.lst [])) (.ref pn) (.list (([] : List Sti).map siD)) := .lst upd_same .nil (by decide)
                refine ⟨_, _, d1.dp, d2.dp, shaped_si _, shaped_si _, _, rfl, ?_⟩
                rw [eqv_sil, decide_eq_false (fun z => by
                  have hmem : gapL a t m (i + 1) i0 ∈ gs.filter fun x => decide (x ≠ gapL a t m (i + 1) 0) := List.mem_filter.mpr ⟨by rw [hgs]; exact List.mem_map.mpr ⟨i0, List.mem_range.mpr hi0, rfl⟩, decide_eq_true hne⟩
                  rw [z] at hmem
                  cases hmem)]
                refine iteF ?_
                exact nxt _ (s'.trans sn)
            · refine iteF ?_
              exact nxt _ (Same.refl _)
        · rintro σ' H5 ⟨y4, y5, y6, y7, y8, y9, rfl, s5⟩
          have h1 := s5 _ _ h1
          have el1 := s5 _ _ el1
          have el2 := s5 _ _ el2
          have hxa := hxa.same s5
          have hxf := hxf.same s5
          have k5 : ∀ H', Same H5 H' → Q (.bl true) H' := fun H' s => k4 H' (s5.trans s)
          clear k4 s5
          obtain ⟨gs, hgs⟩ : ∃ gs : List Sti, f = gs.map up := ups (cn.nn ha)
          have hxg : DvAll H5 xf (gs.map siD) := by
            rw [hgs, List.map_map] at hxf
            exact hxf
          have lg : gs.length = f.length := by rw [hgs, List.length_map]
          refine ⟨_, rfl, Nat.zero_le _, fun pn npn => ?_⟩
          generalize hq : upd H5 pn _ = H6
          obtain ⟨s6, e6⟩ := new_facts npn hq
          clear hq
          have d1 : Dv H6 (.ref l1) (.list (gs.map siD)) := .lst (s6 _ _ el1) (hxg.same s6) (by rw [List.length_map]; omega)
          have d2 : Dv H6 (.ref pn) (.list (([] : List Sti).map siD)) := .lst e6 .nil (by decide)
          refine ⟨_, _, d1.dp, d2.dp, shaped_si _, shaped_si _, _, rfl, ?_⟩
          rw [eqv_sil]
          rcases List.eq_nil_or_concat gs with hg | ⟨gs', x, hg⟩
          · rw [decide_eq_true hg]
            refine iteT ?_
            exact k5 _ s6
          · rw [List.concat_eq_append] at hg
            rw [decide_eq_false (by rw [hg]; simp)]
            refine iteF ?_
            have hxg2 := hxg.same s6
            rw [hg, List.map_append] at hxg2
            obtain ⟨z, hz, dz⟩ := DvAll.last hxg2
            obtain ⟨q, rfl, eq⟩ := dv_si dz
            rcases List.eq_nil_or_concat a with hae | ⟨a', y, hae⟩
            · exact absurd hae ha
            · rw [List.concat_eq_append] at hae
              have hxa2 := hxa.same s6
              rw [hae, List.map_append] at hxa2
              obtain ⟨z2, hz2, dz2⟩ := DvAll.last hxa2
              obtain ⟨q2, rfl, eq2⟩ := dv_si dz2
              refine ⟨_, rfl, _, rfl, _, _, _, _, rfl, rfl, SqL.of (s6 _ _ el1), atI_neg1 hz, _, _, _, _, rfl, rfl, SqT.of eq, rfl, _, rfl, p, C, dx, _, _, rfl, s6 _ _ h1, R.cl, R.nT, ltt, _, _, rfl, rfl, ?_⟩
              refine ⟨_, rfl, _, rfl, _, _, _, _, rfl, rfl, SqL.of (s6 _ _ el1), atI_neg1 hz, _, _, _, _, rfl, rfl, SqT.of eq, rfl, _, rfl, p, C, dx, _, _, rfl, s6 _ _ h1, R.cl, R.nM, ltm, _, _, rfl, rfl, Nat.le_of_ble_eq_true rfl, fun pt npt => ?_⟩
              have s7 := same_upd (o := .tup [.int (x.1 + t), .int (x.2 + m)]) npt
              have d3 : Dv (upd H6 pt (.tup [.int (x.1 + t), .int (x.2 + m)])) (.ref pt) (siD (mv t m x)) := si_dv (x := mv t m x) upd_same
              have d4 : Dv (upd H6 pt (.tup [.int (x.1 + t), .int (x.2 + m)])) (.ref q2) (siD y) := si_dv (s7 _ _ eq2)
              refine ⟨_, rfl, _, rfl, _, _, _, _, rfl, rfl, SqL.of (s7 _ _ (s6 _ _ el2)), atI_neg1 hz2, _, _, d3.dp, d4.dp, rfl, rfl, ?_⟩
              rw [eqv_si, decide_eq_false (fun z => cn.c2 ha (up x) y (by rw [hgs, hg, List.map_append]; exact List.getLast?_concat ..) (by rw [hae]; exact List.getLast?_concat ..) (by rw [mv_up, z]))]
              exact k5 _ (s6.trans s7)
end
end My

namespace My
open PySem PySem.Spec PyProof.Rows L2
local macro_rules | `(tactic| walk_at "side") => `(tactic| first | (dsimp only; omega) | exact ⟨by omega, by omega⟩ | exact Or.inl ⟨by omega, by omega⟩ | exact Or.inr ⟨by omega, by omega⟩ | decide)
local macro_rules | `(tactic| walk_at "sq") => `(tactic| first | assumption | exact SqL.of (by assumption) | exact SqT.of (by assumption) | (refine L2.Same.seq (by assumption) ?_; walk_at "sq") | (refine L2.Same.seqT (by assumption) ?_; walk_at "sq") | exact Or.inl (by walk_at "sq") | exact Or.inr (by walk_at "sq"))
local macro_rules | `(tactic| walk_at "1") => `(tactic| first
  | refine ⟨_, rfl, iteT ?_⟩
  | refine ⟨_, rfl, iteF ?_⟩
  | refine ⟨_, rfl, ?_⟩
  | refine ⟨_, _, rfl, rfl, (by walk_at "side"), ?_⟩
  | refine ⟨_, _, rfl, rfl, ?_⟩
  | refine ⟨_, _, _, _, true, rfl, .ty _, .base (.int _), kit_ty (a := "int") (by decide +kernel), ?_⟩
  | refine ⟨_, _, _, _, false, rfl, .ty _, .base (.int _), kit_ty (a := "int") (by decide +kernel), ?_⟩
  | refine ⟨_, _, rfl, (by walk_at "sq"), ?_⟩
  | refine ⟨_, _, _, _, rfl, rfl, (by walk_at "sq"), (by first | rfl | assumption), ?_⟩
  | refine Or.inl ⟨_, _, _, _, rfl, rfl, (by walk_at "sq"), (by first | rfl | assumption), ?_⟩
  | refine Or.inr (Or.inl ⟨_, _, _, _, rfl, rfl, (by walk_at "sq"), (by first | rfl | assumption), ?_⟩)
  | refine ⟨_, _, rfl, Or.inl ⟨(by walk_at "sq"), ?_⟩⟩
  | refine ⟨rfl, ?_⟩
  | refine iteT ?_
  | refine iteF ?_
  | refine ⟨_, _, _, _, _, rfl, (by assumption), (by assumption), (by assumption), (by assumption), ?_⟩
  | refine Or.inl ⟨_, rfl, ?_⟩
  | refine Or.inr ⟨_, rfl, ?_⟩
  | refine ⟨_, _, rfl, (by walk_at "side"), ?_⟩
  | refine ⟨_, _, rfl, ?_⟩)
local macro_rules | `(tactic| walk_at "fld") => `(tactic| skip)
local macro_rules | `(tactic| walk_at "s") => `(tactic| repeat walk_at "1")
local macro_rules | `(tactic| walk_at "size") => `(tactic| first | exact Nat.le_of_ble_eq_true rfl | (simp only [List.length_map, List.length_append, List.length_cons, List.length_nil]; omega))
local macro_rules | `(tactic| walk_at "new") => `(tactic| (first | refine ⟨(by walk_at "size"), fun p hp => ?_⟩ | refine fun p hp => ?_); (generalize hq : upd _ p _ = H1); (obtain ⟨s, e⟩ := new_facts hp hq); clear hq)
/-! whether a tally tells what is due -/
def reprO : Option Int → Str
  | none => "None"
  | some i => toString i
theorem call_reprO {X : Cx} : CallR X (.builtin "repr") (fun xs H Q => ∃ t : Option Int, xs = [cV t] ∧ (∀ i, t = some i → i.natAbs.log2 < 1920) ∧ Q (.str (reprO t)) H) := by
  intro pins s σ H xs us Q I r h
  obtain ⟨t, rfl, hz, q⟩ := h
  obtain ⟨u, rfl, rx⟩ := vals1 r
  cases t with
  | none =>
    cases (show u = Value.none from rx)
    exact PySem.P.repr_of_none ⟨.str _, H, I.tok _, ⟨_, rfl⟩, q⟩
  | some i =>
    obtain ⟨k, rfl⟩ := (show ∃ t, u = Value.int i t from rx)
    exact PySem.P.repr_of_int (hz i rfl) ⟨.str _, H, I.tok _, ⟨_, rfl⟩, q⟩
def BigT (time : Int) : Prop := -(10 ^ 15) ≤ time ∧ time ≤ 10 ^ 15
theorem times_big : ∀ x ∈ rgV (0 - 8) 30 ++ [V.int ((10 : Int) ^ (12 : Int).toNat), V.int ((10 : Int) ^ (15 : Int).toNat), V.int (0 - (10 : Int) ^ (15 : Int).toNat)], ∃ time, x = .int time ∧ BigT time := by
  intro x hx
  have e15 : (10 : Int) ^ (15 : Int).toNat = 1000000000000000 := by decide
  have e12 : (10 : Int) ^ (12 : Int).toNat = 1000000000000 := by decide
  have b15 : (10 : Int) ^ 15 = 1000000000000000 := by decide
  unfold BigT
  rw [b15]
  rw [e15, e12] at hx
  rcases List.mem_append.mp hx with h | h
  · obtain ⟨i, hi, rfl⟩ := List.mem_map.mp h
    have := List.mem_range.mp hi
    exact ⟨_, rfl, by omega, by omega⟩
  · rcases List.mem_cons.mp h with rfl | h
    · exact ⟨_, rfl, by omega, by omega⟩
    · rcases List.mem_cons.mp h with rfl | h
      · exact ⟨_, rfl, by omega, by omega⟩
      · rw [List.mem_singleton] at h
        subst h
        exact ⟨_, rfl, by omega, by omega⟩
/-- the made form tells what the drawn one is asked to -/
structure TellsT (u : Option Int) (f : List Stp) (a : List Sti) (t m : Int) (f' : List Stp) (a' : List Sti) (t' m' : Int) : Prop where
  same : ∀ time v, BigT time → ToldT u f' a' t' m' time v → v = atL u f a t m time ∧ ∀ i, v = some i → i.natAbs.log2 < 1920
  nil : a = [] ↔ a' = []
  rate : a ≠ [] → 0 < t ∧ lowN m' t' = lowN m t ∧ lowD m' t' = lowD m t
  canon : CanonL f' a' t' m'
def spToldR (C : Addr) : Sp := fun vs H Q _ => ∃ (v : V) (p : Addr) (u : Option Int) (f f' : List Stp) (a a' : List Sti) (t m t' m' : Int), vs = [v, .ref p] ∧ Dv H v (rawD u f a t m) ∧ TalAt C H p u f' a' t' m' ∧ PartsT f' a' t' m' ∧ f.length ≤ 1000 ∧ a.length ≤ 1000 ∧ 0 ≤ t ∧ t < 1000000 ∧ 0 ≤ m ∧ m < 1000000 ∧
  TellsT u f a t m f' a' t' m' ∧ ∀ H', Same H H' → Q (.bl true) H'
section
variable {P : Program} {w : World} {K : PySem.W.Frag} {mg : Str → Option Value} {base : Heap} {C : Addr}
abbrev s_law_told_right : Stmt := topS 36
theorem sc_law_told_right : FnScope ["raw", "made", "time", "due"] ["raw", "made"] (defScope s_law_told_right) := ⟨rfl, rfl, rfl, by decide +kernel, rfl, by decide +kernel, by decide +kernel⟩
set_option maxHeartbeats 16000000 in
theorem ok_told_right (D : Df K mg "_law_told_right" s_law_told_right ["raw", "made"]) (T : Txt mg) (R : TalCls K C) (o_by : Mth P w K mg base C "by" 3 ["self", "time"] (spTold C)) (o_rate : Prp P w K mg base C "rate" 2 ["self"] (spRate C))
    (o_law_at : Own P w K mg base "_law_at" 1 ["raw", "time"] spAt) (o_law_lowest : Own P w K mg base "_law_lowest" 2 ["upper", "lower"] spLowest) (o_law_is_least : Own P w K mg base "_law_is_least" 1 ["made"] (spLeast C)) : Own P w K mg base "_law_told_right" 4 ["raw", "made"] (spToldR C) := by
  refine D.own sc_law_told_right (fun vs H Q E h => ?_) (fun fa cdv A outer s H vs Q E hr h => ?_)
  · obtain ⟨_, _, _, _, _, _, _, _, _, _, _, rfl, _⟩ := h
    rfl
  · obtain ⟨v, p, u, f, f', a, a', t, m, t', m', rfl, hd, ht, ok, lf, la, t0, t1, m0, m1, tl, k⟩ := h
    obtain ⟨r, pf, pa, xf, xa, rfl, er, epf, hxf, epa, hxa⟩ := hd.rawE
    obtain ⟨dx, qf, qa, yf, ya, hp, _⟩ := id ht
    refine ⟨_, (pss_cons (ps_for PassesOwn.never rfl (pi_list (pe_op op_cat (pe_listRg rfl (by rfl) T.list (prg_2 (by rfl) T.range (pe_op op_sub pe_int pe_int) pe_int)) (pe_lst (pa_cons (pe_op op_pow pe_int pe_int) (pa_cons (pe_op op_pow pe_int pe_int) (pa_cons (pe_op op_sub pe_int (pe_op op_pow pe_int pe_int)) pa_nil)))))) (pg_name (i := 2) sc_law_told_right.nd rfl (Or.inl rfl))
    (pss_one (ps_if (pt_cmpR op_ne (pe_callB call_reprO (by rfl) T.repr (by decide +kernel) (pa_cons (pe_mth R.cl o_by (hr.mono (by decide)) (pv 1) (pa_cons (pv 2) pa_nil)) pa_nil)) (pe_callB call_reprO (by rfl) T.repr (by decide +kernel) (pa_cons (pe_own o_law_at (hr.mono (by decide)) (pa_cons (pv 0) (pa_cons (pv 2) pa_nil))) pa_nil)) (nomark _))
        (pss_one (ps_ret pe_bl))
        pss_nil)))
  (C8.pss_cut (ps_set (i := 3) sc_law_told_right.nd rfl (Or.inl rfl) (pe_ifExp (pt_cmpR (op_eqD hr.units) (pe_ix ix_tup (pv 0) pe_int (fun _ _ => rfl)) (pe_lst pa_nil) (nomark _)) pe_non (pe_own o_law_lowest (hr.mono (by decide)) (pa_cons (pe_ix ix_tup (pv 0) pe_int (fun _ _ => rfl)) (pa_cons (pe_ix ix_tup (pv 0) pe_int (fun _ _ => rfl)) pa_nil)))))
  (pss_one (ps_ret (pe_and (pe_alt (pe_cmpR op_eq (pe_prp R.cl o_rate (hr.mono (by decide)) (pv 1)) (pv 3) (nomark _)) (pe_cmpR (op_eqD hr.units) (pe_prp R.cl o_rate (hr.mono (by decide)) (pv 1)) (pv 3) (nomark _))) (pe_one (pe_own o_law_is_least (hr.mono (by decide)) (pa_cons (pv 1) pa_nil)))))))), ?_⟩
    refine ⟨_, _, rfl, rfl, _, _, rfl, rfl, ⟨by decide, by decide, by decide, by decide, by decide⟩, fun q1 n1 => ?_⟩
    refine ⟨_, _, rfl, rfl, ⟨by decide, by decide, by decide⟩, ?_⟩
    refine ⟨_, _, rfl, rfl, ⟨by decide, by decide, by decide⟩, _, _, rfl, rfl, ⟨by decide, by decide, by decide⟩, _, _, rfl, rfl, Nat.le_of_ble_eq_true rfl, fun q2 n2 => ?_⟩
    generalize hq : upd H q1 _ = H1 at n2 ⊢
    obtain ⟨s1, e1⟩ := new_facts n1 hq
    clear hq
    generalize hq : upd H1 q2 _ = H2
    obtain ⟨s2, e2⟩ := new_facts n2 hq
    clear hq
    refine ⟨q1, q2, _, _, rfl, rfl, s2 _ _ e1, e2, Nat.le_of_lt (small2000 (by rw [rgV_length]; decide)), fun q3 n3 => ?_⟩
    generalize hq : upd H2 q3 _ = H3
    obtain ⟨s3, e3⟩ := new_facts n3 hq
    clear hq
    have s13 := s1.trans (s2.trans s3)
    have hd3 := hd.same s13
    have ht3 := ht.same s13
    have k3 : ∀ H', Same H3 H' → Q (.bl true) H' := fun H' s => k H' (s13.trans s)
    have er3 := s13 _ _ er
    have epa3 := s13 _ _ epa
    have hxa3 := hxa.same s13
    have hp3 := s13 _ _ hp
    clear k hd ht s1 s2 s3 s13 er epa hxa hp epf hxf e1 e2 n1 n2 n3
    refine ⟨q3, rfl, ⟨_, SqL.of e3⟩, for_seq (seqIt_l (SqL.of e3)) (fun i σ' H' => ∃ y : Option V, σ' = [some (.ref r), some (.ref p), y, none] ∧ Same H3 H') ⟨none, rfl, Same.refl _⟩ (fun i σ' H' ⟨_, _, e⟩ => e) ?_ ?_⟩
    · rintro i z σ' H' hz ⟨y, rfl, s'⟩
      obtain ⟨time, rfl, hb⟩ := times_big z (List.mem_of_getElem? hz)
      refine ⟨_, rfl, p, dx, _, rfl, s' _ _ hp3, rfl, _, rfl, p, u, f', a', t', m', time, rfl, ht3.same s', ok, fun H4 v hs tv => ?_⟩
      obtain ⟨ev, hv⟩ := tl.same time v hb tv
      refine ⟨v, rfl, hv, _, rfl, _, rfl, .ref r, u, f, a, t, m, time, rfl, (hd3.same s').same hs, fun h => (tl.rate h).1, t0, t1, m0, m1, lf, la, fun H5 hs5 => ?_⟩
      refine ⟨v, by rw [ev], hv, rfl, _, rfl, ?_⟩
      rw [decide_eq_true rfl]
      refine iteF ?_
      exact ⟨_, rfl, s'.trans (hs.trans hs5)⟩
    · rintro σ' H' ⟨y, rfl, s'⟩
      have hp4 := s' _ _ hp3
      have ht4 := ht3.same s'
      have er4 := s' _ _ er3
      have epa4 := s' _ _ epa3
      have hxa4 := hxa3.same s'
      have k4 : ∀ H5, Same H' H5 → Q (.bl true) H5 := fun H5 s => k3 H5 (s'.trans s)
      have lxa := hxa4.len
      rw [List.length_map] at lxa
      refine ⟨fun σ' H5 => Same H' H5 ∧ ((a = [] ∧ σ' = [some (.ref r), some (.ref p), y, some .non]) ∨ (a ≠ [] ∧ ∃ q, σ' = [some (.ref r), some (.ref p), y, some (.ref q)] ∧ H5 q = some (.tup [.int (lowN m t), .int (lowD m t)]))), ?_, ?_⟩
      · refine ⟨_, rfl, _, _, _, _, rfl, rfl, SqT.of er4, rfl, Nat.zero_le _, fun pn npn => ?_⟩
        have sn := same_upd (o := .lst []) npn
        have d1 : Dv (upd H' pn (.lst [])) (.ref pa) (.list (a.map siD)) := .lst (sn _ _ epa4) (hxa4.same sn) (by rw [List.length_map]; omega)
        have d2 : Dv (upd H' pn (.lst [])) (.ref pn) (.list (([] : List Sti).map siD)) := .lst upd_same .nil (by decide)
        refine ⟨_, _, d1.dp, d2.dp, shaped_si _, shaped_si _, ?_⟩
        rw [eqv_sil]
        refine ⟨_, rfl, ?_⟩
        by_cases ha : a = []
        · rw [decide_eq_true ha]
          refine iteT ?_
          exact ⟨sn, Or.inl ⟨ha, rfl⟩⟩
        · rw [decide_eq_false ha]
          refine iteF ?_
          have tp := (tl.rate ha).1
          refine ⟨_, rfl, _, _, _, _, rfl, rfl, SqT.of (sn _ _ er4), rfl, _, rfl, _, _, _, _, rfl, rfl, SqT.of (sn _ _ er4), rfl, m, t, rfl, tp, t1, fun H5 q s5 nq eq => ?_⟩
          exact ⟨sn.trans s5, Or.inr ⟨ha, q, rfl, eq⟩⟩
      · rintro σ' H5 ⟨s5, h5⟩
        have hp5 := s5 _ _ hp4
        have ht5 := ht4.same s5
        have lf' := ok.lf
        have la' := ok.la
        rcases h5 with ⟨ha, rfl⟩ | ⟨ha, q, rfl, eq⟩
        · refine Or.inl ⟨_, rfl, p, dx, _, rfl, hp5, p, u, f', a', t', m', rfl, ht5, ok, fun _ => ?_, fun h => absurd (tl.nil.mp ha) h⟩
          refine ⟨_, rfl, rfl, _, rfl, ?_⟩
          refine iteT ?_
          exact ⟨_, rfl, p, u, f', a', t', m', rfl, ht5, lf', la', tl.canon, fun H6 s6 => k4 H6 (s5.trans s6)⟩
        · obtain ⟨tp, en, ed⟩ := tl.rate ha
          refine Or.inr ⟨_, rfl, p, dx, _, rfl, hp5, p, u, f', a', t', m', rfl, ht5, ok, fun h => absurd (tl.nil.mpr h) ha, fun _ H6 q2 s6 n6 e6 => ?_⟩
          have d1 : Dv H6 (.ref q2) (siD (lowN m' t', lowD m' t')) := si_dv e6
          have d2 : Dv H6 (.ref q) (siD (lowN m t, lowD m t)) := si_dv (s6 _ _ eq)
          refine ⟨_, rfl, _, _, d1.dp, d2.dp, rfl, rfl, ?_⟩
          rw [eqv_si, decide_eq_true (by rw [en, ed])]
          refine ⟨_, rfl, ?_⟩
          refine iteT ?_
          exact ⟨_, rfl, p, u, f', a', t', m', rfl, ht5.same s6, lf', la', tl.canon, fun H7 s7 => k4 H7 (s5.trans (s6.trans s7))⟩
end
end My

set_option linter.all false
/-! a method that is called with keywords alone -/
namespace My
open PySem PySem.Spec PyProof.Rows L2
/-- o.m(k = v, ..): what is read, n the number of keywords -/
def tMethK (C : Addr) (m : Str) (n : Nat) (sp : Sp) (gV : List V → List V → List V) (E : XK)
    (ta : TE) (tk : TA) : TE := fun σ H Q =>
  ta σ H fun self H1 =>
    ∃ (o od : Addr) (own : List (Str × V)), self = .ref o ∧ H1 o = some (.ins C od own) ∧ own.lookup m = none ∧
      tk σ H1 fun given H2 => given.length = n ∧ sp (gV [self] given) H2 Q E
section
variable {X : Cx} {CX : CXT} {lv n : Nat} {f C : Addr} {fd : FuncData} {ps ks : List Str} {sp : Sp} {E : XK}
  {m : Str} {pos apos : Pos} {o : Expr} {kws : List Keyword} {ta : TE} {tk : TA}
  {g : List Value → List Value → List Value} {gV : List V → List V → List V}
/-- a def called with n values and keywords -/
theorem run_fnKBn {pins : List (Addr × Obj)} {σ : L2.St} {H : Hp} {s : Shared} {Q : VK} {us ws : List Value} {vs zs : List V}
    (F : FnOk X.prog X.w X.K X.mg X.base CX lv f fd ps sp) (room : Room lv X.A) (kb : KBn X.K fd ps n ks g gV) (hx : Passes CX X E)
    (I : Inv X pins σ H s) (r : Vals vs us) (rz : Vals zs ws) (len1 : vs.length = n) (len2 : zs.length = ks.length)
    (got : sp (gV vs zs) H Q E) :
    wpAny (model X.prog X.w) X.A (call (.ref f) us (ks.zip ws)) (EP X pins σ Q) X.xe s := by
  have n1 : us.length = n := r.length ▸ len1
  have n2 : ws.length = ks.length := rz.length ▸ len2
  have run := F.run X.A X.stack s H ⟨us, ks.zip ws⟩ (g us ws) (gV vs zs) Q E room I.env0 (kb.to s us ws I.kIn n1 n2) (kb.rel r rz) got
  refine wpAny_call (codeAny_mono run ?_)
  intro res s' q
  match res, q with
  | .error e, q => exact hx pins σ H s e s' I q
  | .ok (.ret _), q => exact I.after q
  | .ok .next, q => exact q.elim
  | .ok .brk, q => exact q.elim
  | .ok .cont, q => exact q.elim
/-- o.m(k = v, ..) -/
theorem pe_methK0 {pl : Sem Bool} (ho : PE X o ta) (c : Cls X.K C) (hm : Meth X.K C m f)
    (F : FnOk X.prog X.w X.K X.mg X.base CX lv f fd ps sp) (room : Room lv X.A) (kb : KBn X.K fd ps 1 ks g gV)
    (hx : Passes CX X E) (hkw : PK X kws tk)
    (named : (backToKw pos (keywordEach kws X.env)).all (·.1.isSome) = true := by rfl)
    (names : (backToKw pos (keywordEach kws X.env)).filterMap (·.1) = ks := by rfl)
    (plain : ((backTo pos (starEach [] X.env)).any (·.1) || (backToKw pos (keywordEach kws X.env)).any (·.1.isNone)) = false := by rfl)
    (ht : eval (.Call (.Attribute o m apos) [] kws pos) X.env = (do
      let w ← eval o X.env
      standAt apos.atName
      let (fn, one) ← holding [w] (getMethod w m pl)
      callWith pos fn one (backTo pos (starEach [] X.env)) (backToKw pos (keywordEach kws X.env))) := by rfl) :
    PE X (.Call (.Attribute o m apos) [] kws pos) (tMethK C m ks.length sp gV E ta tk) := by
  constructor
  intro pins s σ H Q I read
  apply PySem.W.methodCall_KW (pl := pl) (he := ht)
  apply thn (ho.run pins s σ H _ I read)
  rintro u s1 ⟨x, H1, I1, rx, a, od, own, rfl, at_, none_, rest⟩
  obtain rfl : u = Value.ref a := rx
  apply getmeth_ok I1 at_ c hm none_
  apply PySem.W.callWith_KW0 (h₀ := X.base) (first := [.ref a]) I1.ok.mod.kin hm.kp named ?_ plain
  apply thn (hkw.run pos pins s1 σ H1 _ I1 rest)
  rintro ws s2 ⟨zs, H2, I2, rz, l2, got⟩
  refine ⟨I2.kIn, ?_⟩
  rw [names]
  exact run_fnKBn (us := [.ref a]) (vs := [.ref a]) F room kb hx I2 (.cons rfl .nil) rz rfl l2 got
end
/-! ## a def without defaults that is called by keywords -/
section
variable {K : PySem.W.Frag} {x qual : Str} {st : Stmt} {f : Addr} {fd : FuncData} {ps ks : List Str} {n : Nat}
theorem kbn_of (F : L2.Fun K x qual st f fd) (g : {α : Type} → List α → List α → List α)
    (alike : ∀ {vs zs : List V} {us ws : List Value}, Vals vs us → Vals zs ws → Vals (g vs zs) (g us ws))
    (bind : ∀ (kV doc pm : Value) (an : Option Addr) (cdv ct : Value) (us ws : List Value), us.length = n → ws.length = ks.length →
      bindArgs (PySem.W.fnOf x qual (defArgs st) (defBody st) (defScope st) .none kV doc pm an cdv ct) ⟨us, ks.zip ws⟩ = pure (ps.zip (g us ws))) :
    KBn K fd ps n ks (fun us ws => g us ws) (fun vs zs => g vs zs) := by
  obtain ⟨oc, od, kV, doc, pm, an, cdv, ct, osl, rfl, _, _⟩ := F.ex
  exact ⟨fun s us ws _ l1 l2 => .of_eq (bind kV doc pm an cdv ct us ws l1 l2), fun a b => alike a b⟩
theorem vals_rev {vs : List V} {us : List Value} (h : Vals vs us) : Vals vs.reverse us.reverse := by
  induction h with
  | nil => exact .nil
  | cons a _ ih =>
    rw [List.reverse_cons, List.reverse_cons]
    exact ih.append (.cons a .nil)
/-- keywords in the order of the parameters -/
theorem kbn_fwd (F : L2.Fun K x qual st f fd)
    (bind : ∀ (kV doc pm : Value) (an : Option Addr) (cdv ct : Value) (us ws : List Value), us.length = n → ws.length = ks.length →
      bindArgs (PySem.W.fnOf x qual (defArgs st) (defBody st) (defScope st) .none kV doc pm an cdv ct) ⟨us, ks.zip ws⟩ = pure (ps.zip (us ++ ws))) :
    KBn K fd ps n ks (fun us ws => us ++ ws) (fun vs zs => vs ++ zs) :=
  kbn_of F (fun a b => a ++ b) (fun a b => a.append b) bind
/-- keywords from the last parameter to the first -/
theorem kbn_back (F : L2.Fun K x qual st f fd)
    (bind : ∀ (kV doc pm : Value) (an : Option Addr) (cdv ct : Value) (us ws : List Value), us.length = n → ws.length = ks.length →
      bindArgs (PySem.W.fnOf x qual (defArgs st) (defBody st) (defScope st) .none kV doc pm an cdv ct) ⟨us, ks.zip ws⟩ = pure (ps.zip (us ++ ws.reverse))) :
    KBn K fd ps n ks (fun us ws => us ++ ws.reverse) (fun vs zs => vs ++ zs.reverse) :=
  kbn_of F (fun a b => a ++ b.reverse) (fun a b => a.append (vals_rev b)) bind
end
end My

namespace My
open PySem PySem.Spec PyProof.Rows L2
local macro_rules | `(tactic| walk_at "side") => `(tactic| first | (dsimp only; omega) | exact ⟨by omega, by omega⟩ | exact Or.inl ⟨by omega, by omega⟩ | exact Or.inr ⟨by omega, by omega⟩ | decide)
local macro_rules | `(tactic| walk_at "sq") => `(tactic| first | assumption | exact SqL.of (by assumption) | exact SqT.of (by assumption) | (refine L2.Same.seq (by assumption) ?_; walk_at "sq") | (refine L2.Same.seqT (by assumption) ?_; walk_at "sq") | exact Or.inl (by walk_at "sq") | exact Or.inr (by walk_at "sq"))
local macro_rules | `(tactic| walk_at "1") => `(tactic| first
  | refine ⟨_, rfl, iteT ?_⟩
  | refine ⟨_, rfl, iteF ?_⟩
  | refine ⟨_, rfl, ?_⟩
  | refine ⟨_, _, rfl, rfl, (by walk_at "side"), ?_⟩
  | refine ⟨_, _, rfl, rfl, ?_⟩
  | refine ⟨_, _, _, _, true, rfl, .ty _, .base (.int _), kit_ty (a := "int") (by decide +kernel), ?_⟩
  | refine ⟨_, _, _, _, false, rfl, .ty _, .base (.int _), kit_ty (a := "int") (by decide +kernel), ?_⟩
  | refine ⟨_, _, rfl, (by walk_at "sq"), ?_⟩
  | refine ⟨_, _, _, _, rfl, rfl, (by walk_at "sq"), (by first | rfl | assumption), ?_⟩
  | refine Or.inl ⟨_, _, _, _, rfl, rfl, (by walk_at "sq"), (by first | rfl | assumption), ?_⟩
  | refine Or.inr (Or.inl ⟨_, _, _, _, rfl, rfl, (by walk_at "sq"), (by first | rfl | assumption), ?_⟩)
  | refine ⟨_, _, rfl, Or.inl ⟨(by walk_at "sq"), ?_⟩⟩
  | refine ⟨rfl, ?_⟩
  | refine iteT ?_
  | refine iteF ?_
  | refine ⟨_, _, _, _, _, rfl, (by assumption), (by assumption), (by assumption), (by assumption), ?_⟩
  | refine Or.inl ⟨_, rfl, ?_⟩
  | refine Or.inr ⟨_, rfl, ?_⟩
  | refine ⟨_, _, rfl, (by walk_at "side"), ?_⟩
  | refine ⟨_, _, rfl, ?_⟩)
local macro_rules | `(tactic| walk_at "fld") => `(tactic| skip)
local macro_rules | `(tactic| walk_at "s") => `(tactic| repeat walk_at "1")
local macro_rules | `(tactic| walk_at "size") => `(tactic| first | exact Nat.le_of_ble_eq_true rfl | (simp only [List.length_map, List.length_append, List.length_cons, List.length_nil]; omega))
local macro_rules | `(tactic| walk_at "new") => `(tactic| (first | refine ⟨(by walk_at "size"), fun p hp => ?_⟩ | refine fun p hp => ?_); (generalize hq : upd _ p _ = H1); (obtain ⟨s, e⟩ := new_facts hp hq); clear hq)
/-! Tally and by called with keywords -/
section
variable {K : PySem.W.Frag}
theorem kbn_init {f1 : Addr} {fd : FuncData} (F : Fun K "__init__" "Tally.__init__" s_Tally_init f1 fd) :
    KBn K fd ["self", "under", "first", "again", "turn", "more"] 1 ["more", "turn", "again", "first", "under"] (fun us ws => us ++ ws.reverse) (fun vs zs => vs ++ zs.reverse) :=
  kbn_back F fun _ _ _ _ _ _ us ws l1 l2 => match us, l1, ws, l2 with | [_], _, [_, _, _, _, _], _ => rfl
theorem kbn_by {f1 : Addr} {fd : FuncData} (F : Fun K "by" "Tally.by" s_Tally_by f1 fd) :
    KBn K fd ["self", "time"] 1 ["time"] (fun us ws => us ++ ws) (fun vs zs => vs ++ zs) :=
  kbn_fwd F fun _ _ _ _ _ _ us ws l1 l2 => match us, l1, ws, l2 with | [_], _, [_], _ => rfl
end
/-- what the law needs of Tally by keywords -/
structure TalKw (P : Program) (w : World) (K : PySem.W.Frag) (mg : Str → Option Value) (base : Heap) (C D : Addr) : Prop where
  ex : ∃ f fd, FnOk P w K mg base (L2.CX P w) 5 f fd ["self", "under", "first", "again", "turn", "more"] (spInitT C D) ∧ mg "Tally" = some (.ref C) ∧ Mk K C f ∧
    KBn K fd ["self", "under", "first", "again", "turn", "more"] 1 ["more", "turn", "again", "first", "under"] (fun us ws => us ++ ws.reverse) (fun vs zs => vs ++ zs.reverse)
end My

namespace MyN
open PySem PySem.Spec PyProof.Rows
section
variable {prog : Program} {w : World} {A : Around} {E : Value → Shared → Prop} {s : Shared} {K : PySem.W.Frag} {x C L f : Addr} {h₀ : Heap} {m : Str → Option Value} {ox : Obj} {od : Option Obj} {b tb : Value}
open Builtin in
theorem ne_body {Q : Fin → Shared → Prop} (hu : A.units < cLine) (X : K.In s.heap) (I : PySem.W.InstAt s.heap x ox C od) (hs : PySem.W.findIn K (.ref C) "__eq__" = some (some (.ref f))) (hf : PySem.W.isFn K (.ref f) = true)
    (h : wpAny (model prog w) A (call (.ref f) [.ref x, b]) (fun v s' => ∃ r, v = .bool r ∧ Q (.done (.ret (.bool (!r)))) s') E s) : wpAny (model prog w) A (Builtin.«object.__ne__» ⟨[.ref x, b], []⟩) Q E s := by
  unfold Builtin.«object.__ne__»
  repeat (first
    | with_reducible refine wpAny_cRoomFor hu ?_
    | (refine wpAny_bind (m := callSpecialIfBound? (.ref x) (Str.ofString "__eq__") [b])
        (PySem.W.ifBound_K X I hs hf (wpAny_mono h (fun r s' hr => by
          obtain ⟨b, rfl, hq⟩ := hr
          repeat (first | exact hq | exact wpAny_pure hq | exact wpAny_truthy_bool hq | (refine wpAny_bind (m := truthy (.bool _)) (wpAny_truthy_bool ?_)) | wp_step)) fun _ _ e => e)))
    | wp_step)
theorem call_objNe {Q : Value → Shared → Prop} (hu : A.in1.units < cLine) (X : K.In s.heap) (I : PySem.W.InstAt s.heap x ox C od) (hm : PySem.W.mroIn K C (.type "object") = some true) (hs : PySem.W.findIn K (.ref C) "__eq__" = some (some (.ref f))) (hf : PySem.W.isFn K (.ref f) = true)
    (h : wpAny (model prog w) A.in1 (call (.ref f) [.ref x, b]) (fun v s' => ∃ r, v = .bool r ∧ Q (.bool (!r)) s') E s) :
    wpAny (model prog w) A (call (.builtin "object.__ne__") [.ref x, b]) Q E s :=
  wpAny_call (codeAny_call_builtin F.cmp_object.ne.plain F.cmpEntry_ne (PySem.W.check_slot F.cmpKind_ne F.cmpSplit_ne (I.type.andThen (PySem.W.looks_mroIn X hm)) (F.cmpArgs_ne _ _) (ne_body hu X I hs hf h)))
theorem ifBound_objNe {M : Model} {args : List Value} {Q : Option Value → Shared → Prop} (X : K.In s.heap) (I : PySem.W.InstAt s.heap x ox C od) (hs : PySem.W.findIn K (.ref C) "__ne__" = some (some (.builtin "object.__ne__")))
    (h : wpAny M A (call (.builtin "object.__ne__") (.ref x :: args)) (fun v => Q (some v)) E s) : wpAny M A (callSpecialIfBound? (.ref x) "__ne__" args) Q E s := by
  simp only [callSpecialIfBound?, bindSpecialIfBound?]
  refine wpAny_holding (wpAny_bind (wpAny_bind (wpAny_bind (I.type.here ((PySem.W.looks_findIn X hs).here ?_)))))
  refine wpAny_bind (wpAny_askSetting (wpAny_ite ?_))
  have fin : wpAny M A (call (.builtin "object.__ne__") ([.ref x] ++ args) >>= fun v => pure (some v)) Q E s := wpAny_bind (wpAny_mono h (fun v s' h' => wpAny_pure h') fun _ _ h' => h')
  split
  · exact wpAny_bind (wpAny_of_eq (F.cmp_object.ne.bind _) (wpAny_pure (by exact fin)))
  · exact wpAny_tryCatch (wpAny_bind (wpAny_of_eq (F.cmp_object.ne.bind _) (wpAny_pure (by exact fin))))
theorem ne_K {Q : Value → Shared → Prop} (hu : A.units < cLine) (hu1 : A.in1.units < cLine) (F : Fr h₀ L s.heap m) (X₀ : K.In h₀) (I : PySem.W.InstAt s.heap x ox C od) (hb : PySem.W.Looks (model prog w) s.heap (typeOf b) tb) (hn : PySem.W.notFirst K C tb = true)
    (hm : PySem.W.mroIn K C (.type "object") = some true) (hne : PySem.W.findIn K (.ref C) "__ne__" = some (some (.builtin "object.__ne__"))) (hs : PySem.W.findIn K (.ref C) "__eq__" = some (some (.ref f))) (hf : PySem.W.isFn K (.ref f) = true)
    (h : wpAny (model prog w) A.in1 (call (.ref f) [.ref x, b]) (fun v s' => ∃ r, v = .bool r ∧ Q (.bool (!r)) s') E s) : wpAny (model prog w) A (richCompare .NotEq (.ref x) b) Q E s := by
  have X := X₀.keeps F.keep
  have one : wpAny (model prog w) A (tryCompare (.ref x) "__ne__" b) (fun r s' => ∃ v, r = some v ∧ Q v s') E s := by
    unfold tryCompare
    refine wpAny_bind (ifBound_objNe X I hne (call_objNe hu1 X I hm hs hf (wpAny_mono h (fun v s' hv => ?_) fun _ _ e => e)))
    obtain ⟨r, rfl, q⟩ := hv
    exact ⟨r, rfl, wpAny_pure ⟨_, rfl, q⟩⟩
  unfold richCompare
  simp only [oneThing_ref]
  refine wpAny_holding (wpAny_bind (wpAny_cRoomFor hu ?_))
  rw [cmpInfo_NotEq]
  dsimp only
  refine wpAny_bind (I.type.here (wpAny_bind (hb.here ?_)))
  split
  · rename_i q
    have e : PySem.W.subIn K tb (.ref C) = some false := by
      rcases Bool.or_eq_true_iff.mp hn with e | e
      · rw [beq_iff_eq.mp e] at q; simp at q
      · exact beq_iff_eq.mp e
    refine wpAny_bind ((PySem.W.looks_subIn X e).here ?_)
    simp only [Bool.false_eq_true, if_false]
    refine wpAny_bind (wpAny_mono one (fun r s' z => ?_) fun _ _ e => e)
    obtain ⟨v, rfl, hq⟩ := z
    exact wpAny_pure hq
  · refine wpAny_bind (wpAny_pure ?_)
    simp only [Bool.false_eq_true, if_false]
    refine wpAny_bind (wpAny_mono one (fun r s' z => ?_) fun _ _ e => e)
    obtain ⟨v, rfl, hq⟩ := z
    exact wpAny_pure hq
end
end MyN
namespace My
open PySem PySem.Spec PyProof.Rows L2
section
variable {X : Cx} {n : Nat} {C f : Addr} {fd : FuncData} {ps : List Str} {sp : Sp} {CX : CXT} {E : XK}
/-- the own == is a def that keeps a promise -/
structure EqOwn (X : Cx) (CX : CXT) (n : Nat) (C : Addr) (sp : Sp) (E : XK) : Prop where
  ex : ∃ f fd ps, FnOk X.prog X.w X.K X.mg X.base CX n f fd ps sp ∧ PySem.W.findIn X.K (.ref C) "__eq__" = some (some (.ref f)) ∧ PySem.W.isFn X.K (.ref f) = true ∧ Binds X.K fd ps []
  ne : PySem.W.findIn X.K (.ref C) "__ne__" = some (some (.builtin "object.__ne__"))
  mro : PySem.W.mroIn X.K C (.type "object") = some true
  hx : Passes CX X E
theorem own_run {A : Around} {Q : VK} {pins : List (Addr × Obj)} {σ : L2.St} {H : Hp} {s : Shared} {us : List Value} {vs : List V} (F : FnOk X.prog X.w X.K X.mg X.base CX n f fd ps sp) (hb : Binds X.K fd ps []) (hx : Passes CX X E) (hr : Room n A)
    (e0 : Env0 X.prog X.w X.K X.mg X.base A X.stack s H) (I : Inv X pins σ H s) (r : Vals vs us) (hsp : sp vs H Q E) : wpAny (model X.prog X.w) A (call (.ref f) us) (EP X pins σ Q) X.xe s := by
  have hl := F.len _ _ _ _ hsp
  refine wpAny_call (codeAny_mono (F.run A X.stack s H ⟨us, []⟩ us vs _ E hr e0 (by
    have := hb s us I.kIn (by rw [List.append_nil, ← r.length, hl])
    simpa using this) r hsp) fun r s' hq => ?_)
  cases r with
  | error e => exact hx pins σ H s e s' I hq
  | ok fl =>
    cases fl with
    | ret w => exact I.after hq
    | next => exact False.elim hq
    | brk => exact False.elim hq
    | cont => exact False.elim hq
/-- x == y, x of a class with its own ==, y anything of a known type -/
def rEqOwn (K : PySem.W.Frag) (C : Addr) (sp : Sp) (E : XK) : R2 := fun x y H Q => ∃ a dx fs t, x = .ref a ∧ H a = some (.ins C dx fs) ∧ TyX K H y t ∧ PySem.W.notFirst K C t = true ∧ sp [x, y] H Q E
def rNeOwn (K : PySem.W.Frag) (C : Addr) (sp : Sp) (E : XK) : R2 := fun x y H Q => ∃ a dx fs t, x = .ref a ∧ H a = some (.ins C dx fs) ∧ TyX K H y t ∧ PySem.W.notFirst K C t = true ∧ sp [x, y] H (fun v H' => ∃ r, v = .bl r ∧ Q (.bl (!r)) H') E
theorem op_eqOwn (O : EqOwn X CX n C sp E) (hr : Room n X.A) : OpR X (compareOp .Eq) (rEqOwn X.K C sp E) := by
  intro pins s σ H x y v u Q I rx ry h
  obtain ⟨f, fd, ps, F, hs, hf, hb⟩ := O.ex
  obtain ⟨a, dx, fs, t, rfl, ha, ty, hn, q⟩ := h
  cases (show v = Value.ref a from rx)
  obtain ⟨mA, J, _⟩ := ins_get I.hok ha
  obtain ⟨od, J, _⟩ := J.look
  obtain ⟨P, Z, p, _⟩ := kit_of I ry ty
  obtain ⟨m, hF⟩ := I.fr
  refine PySem.W.cmp_ofEq (PySem.W.cmp_K (op := .Eq) (tb := t) hr.units0 hF I.ok.mod.kin J (Z.ty _ _ I.kIn p) hn hs hf ?_)
  refine wpAny_mono (own_run (vs := [.ref a, y]) F hb O.hx hr I.env0 I (.cons rfl (.cons ry .nil)) q) (fun w s' z => ?_) fun _ _ x => x
  obtain ⟨z', H', I', rz, qz⟩ := z
  exact SlX.cmpback rz ⟨z', H', I', rz, qz⟩
theorem op_neOwn (O : EqOwn X CX n C sp E) (hr : Room (n + 1) X.A) : OpR X (compareOp .NotEq) (rNeOwn X.K C sp E) := by
  intro pins s σ H x y v u Q I rx ry h
  obtain ⟨f, fd, ps, F, hs, hf, hb⟩ := O.ex
  obtain ⟨a, dx, fs, t, rfl, ha, ty, hn, q⟩ := h
  cases (show v = Value.ref a from rx)
  obtain ⟨mA, J, _⟩ := ins_get I.hok ha
  obtain ⟨od, J, _⟩ := J.look
  obtain ⟨P, Z, p, _⟩ := kit_of I ry ty
  obtain ⟨m, hF⟩ := I.fr
  refine PySem.W.cmp_ofNotEq (MyN.ne_K (tb := t) hr.units0 hr.in1.units0 hF I.ok.mod.kin J (Z.ty _ _ I.kIn p) hn O.mro O.ne hs hf ?_)
  refine wpAny_mono (own_run (vs := [.ref a, y]) F hb O.hx hr.in1 I.env0.in1 I (.cons rfl (.cons ry .nil)) q) (fun w s' z => ?_) fun _ _ x => x
  obtain ⟨z', H', I', rz, r, rfl, qz⟩ := z
  cases (show w = Value.bool r from rz)
  exact ⟨r, rfl, .bl (!r), H', I', rfl, qz⟩
/-- str(x), x of a class with its own __str__ -/
def rStrOwn (C : Addr) (sp : Sp) (E : XK) : List V → Hp → VK → Prop := fun xs H Q => ∃ a dx fs, xs = [.ref a] ∧ H a = some (.ins C dx fs) ∧ sp [.ref a] H (fun v H' => ∃ y, v = .str y ∧ Q v H') E
structure StrOwn (X : Cx) (CX : CXT) (n : Nat) (C : Addr) (sp : Sp) (E : XK) : Prop where
  ex : ∃ f fd ps, FnOk X.prog X.w X.K X.mg X.base CX n f fd ps sp ∧ PySem.W.findIn X.K (.ref C) "__str__" = some (some (.ref f)) ∧ PySem.W.isFn X.K (.ref f) = true ∧ Binds X.K fd ps []
  hx : Passes CX X E
theorem call_strOwn (O : StrOwn X CX n C sp E) (hr : Room (n + 2) X.A) : CallR X (.type "str") (rStrOwn C sp E) := by
  intro pins s σ H xs us Q I r h
  obtain ⟨f, fd, ps, F, hs, hf, hb⟩ := O.ex
  obtain ⟨a, dx, fs, rfl, ha, q⟩ := h
  obtain ⟨u, rfl, ru⟩ := r.one
  cases (show u = Value.ref a from ru)
  obtain ⟨mA, J, _⟩ := ins_get I.hok ha
  obtain ⟨od, J, _⟩ := J.look
  have hr2 : Room n X.A.in1.in1 := (show Room (n + 1) X.A.in1 from Room.in1 hr).in1
  refine PySem.W.kso_call hr2.units0 I.kIn J hs hf (wpAny_mono (own_run (vs := [.ref a]) F hb O.hx hr2 I.env0.in1.in1 I (.cons rfl .nil) q) (fun w s' z => ?_) fun _ _ x => x)
  obtain ⟨z', H', I', rz, y, rfl, qz⟩ := z
  obtain ⟨t, e⟩ := (show ∃ t, w = Value.str y t from rz)
  cases e
  exact ⟨.str y, H', I', ⟨t, rfl⟩, qz⟩
end
end My

namespace My
open PySem PySem.Spec PyProof.Rows L2
local macro_rules | `(tactic| walk_at "side") => `(tactic| first | (dsimp only; omega) | exact ⟨by omega, by omega⟩ | exact Or.inl ⟨by omega, by omega⟩ | exact Or.inr ⟨by omega, by omega⟩ | decide)
local macro_rules | `(tactic| walk_at "sq") => `(tactic| first | assumption | exact SqL.of (by assumption) | exact SqT.of (by assumption) | (refine L2.Same.seq (by assumption) ?_; walk_at "sq") | (refine L2.Same.seqT (by assumption) ?_; walk_at "sq") | exact Or.inl (by walk_at "sq") | exact Or.inr (by walk_at "sq"))
local macro_rules | `(tactic| walk_at "1") => `(tactic| first
  | refine ⟨_, rfl, iteT ?_⟩
  | refine ⟨_, rfl, iteF ?_⟩
  | refine ⟨_, rfl, ?_⟩
  | refine ⟨_, _, rfl, rfl, (by walk_at "side"), ?_⟩
  | refine ⟨_, _, rfl, rfl, ?_⟩
  | refine ⟨_, _, _, _, true, rfl, .ty _, .base (.int _), kit_ty (a := "int") (by decide +kernel), ?_⟩
  | refine ⟨_, _, _, _, false, rfl, .ty _, .base (.int _), kit_ty (a := "int") (by decide +kernel), ?_⟩
  | refine ⟨_, _, rfl, (by walk_at "sq"), ?_⟩
  | refine ⟨_, _, _, _, rfl, rfl, (by walk_at "sq"), (by first | rfl | assumption), ?_⟩
  | refine Or.inl ⟨_, _, _, _, rfl, rfl, (by walk_at "sq"), (by first | rfl | assumption), ?_⟩
  | refine Or.inr (Or.inl ⟨_, _, _, _, rfl, rfl, (by walk_at "sq"), (by first | rfl | assumption), ?_⟩)
  | refine ⟨_, _, rfl, Or.inl ⟨(by walk_at "sq"), ?_⟩⟩
  | refine ⟨rfl, ?_⟩
  | refine iteT ?_
  | refine iteF ?_
  | refine ⟨_, _, _, _, _, rfl, (by assumption), (by assumption), (by assumption), (by assumption), ?_⟩
  | refine Or.inl ⟨_, rfl, ?_⟩
  | refine Or.inr ⟨_, rfl, ?_⟩
  | refine ⟨_, _, rfl, (by walk_at "side"), ?_⟩
  | refine ⟨_, _, rfl, ?_⟩)
local macro_rules | `(tactic| walk_at "fld") => `(tactic| skip)
local macro_rules | `(tactic| walk_at "s") => `(tactic| repeat walk_at "1")
local macro_rules | `(tactic| walk_at "size") => `(tactic| first | exact Nat.le_of_ble_eq_true rfl | (simp only [List.length_map, List.length_append, List.length_cons, List.length_nil]; omega))
local macro_rules | `(tactic| walk_at "new") => `(tactic| (first | refine ⟨(by walk_at "size"), fun p hp => ?_⟩ | refine fun p hp => ?_); (generalize hq : upd _ p _ = H1); (obtain ⟨s, e⟩ := new_facts hp hq); clear hq)
/-! == and != of tallies -/
structure EqT (P : Program) (w : World) (K : PySem.W.Frag) (mg : Str → Option Value) (base : Heap) (C : Addr) : Prop where
  ex : ∃ f fd, FnOk P w K mg base CX0 1 f fd ["self", "other"] (spEqT K C) ∧ PySem.W.findIn K (.ref C) "__eq__" = some (some (.ref f)) ∧ PySem.W.isFn K (.ref f) = true ∧ Binds K fd ["self", "other"] []
theorem EqT.own {X : Cx} {C : Addr} (O : EqT X.prog X.w X.K X.mg X.base C) (Z : TalEq X.K X.mg C) : EqOwn X CX0 1 C (spEqT X.K C) E0 := by
  obtain ⟨f, fd, F, h1, h2, h3⟩ := O.ex
  exact ⟨⟨f, fd, _, F, h1, h2, h3⟩, Z.ne, Z.mro, pass0⟩
theorem op_eqT {X : Cx} {C : Addr} (O : EqT X.prog X.w X.K X.mg X.base C) (Z : TalEq X.K X.mg C) (hr : Room 1 X.A) : OpR X (compareOp .Eq) (rEqOwn X.K C (spEqT X.K C) E0) := op_eqOwn (O.own Z) hr
theorem op_neT {X : Cx} {C : Addr} (O : EqT X.prog X.w X.K X.mg X.base C) (Z : TalEq X.K X.mg C) (hr : Room 2 X.A) : OpR X (compareOp .NotEq) (rNeOwn X.K C (spEqT X.K C) E0) := op_neOwn (O.own Z) hr
/-- the tally's five parts alike -/
def talE (u : Option Int) (f : List Stp) (a : List Sti) (t m : Int) (u2 : Option Int) (f2 : List Stp) (a2 : List Sti) (t2 m2 : Int) : Bool := decide (u = u2 ∧ f = f2 ∧ a = a2 ∧ t = t2 ∧ m = m2)
section
variable {K : PySem.W.Frag} {mg : Str → Option Value} {C p q : Addr} {H : Hp} {Q : VK} {u u2 : Option Int} {f f2 : List Stp} {a a2 : List Sti} {t m t2 m2 : Int}
theorem rd_eqTal (Z : TalEq K mg C) (h : TalAt C H p u f a t m) (g : TalAt C H q u2 f2 a2 t2 m2) (l1 : f.length ≤ 2000) (l2 : a.length ≤ 2000) (l3 : f2.length ≤ 2000) (l4 : a2.length ≤ 2000)
    (k : Q (.bl (talE u f a t m u2 f2 a2 t2 m2)) H) : rEqOwn K C (spEqT K C) E0 (.ref p) (.ref q) H Q := by
  obtain ⟨dx, _, _, _, _, e, _⟩ := id h
  obtain ⟨dx2, _, _, _, _, e2, _⟩ := id g
  exact ⟨p, dx, _, _, rfl, e, Z.ins _ _ _ _ e2, Z.nself, p, u, f, a, t, m, _, rfl, h, l1, l2, Or.inr ⟨q, u2, f2, a2, t2, m2, rfl, g, l3, l4, k⟩⟩
theorem rd_neTal (Z : TalEq K mg C) (h : TalAt C H p u f a t m) (g : TalAt C H q u2 f2 a2 t2 m2) (l1 : f.length ≤ 2000) (l2 : a.length ≤ 2000) (l3 : f2.length ≤ 2000) (l4 : a2.length ≤ 2000)
    (k : Q (.bl (!talE u f a t m u2 f2 a2 t2 m2)) H) : rNeOwn K C (spEqT K C) E0 (.ref p) (.ref q) H Q := by
  obtain ⟨dx, _, _, _, _, e, _⟩ := id h
  obtain ⟨dx2, _, _, _, _, e2, _⟩ := id g
  exact ⟨p, dx, _, _, rfl, e, Z.ins _ _ _ _ e2, Z.nself, p, u, f, a, t, m, _, rfl, h, l1, l2, Or.inr ⟨q, u2, f2, a2, t2, m2, rfl, g, l3, l4, _, rfl, k⟩⟩
/-- a tally is no tuple -/
theorem rd_eqTup (Z : TalEq K mg C) (h : TalAt C H p u f a t m) {xs : List V} (e2 : H q = some (.tup xs)) (l1 : f.length ≤ 2000) (l2 : a.length ≤ 2000)
    (k : Q (.bl false) H) : rEqOwn K C (spEqT K C) E0 (.ref p) (.ref q) H Q := by
  obtain ⟨dx, _, _, _, _, e, _⟩ := id h
  exact ⟨p, dx, _, _, rfl, e, .base (.tup e2), Z.ntup, p, u, f, a, t, m, _, rfl, h, l1, l2, Or.inl ⟨_, .base (.tup e2), Z.tup, k⟩⟩
theorem talE_rfl : talE u f a t m u f a t m = true := decide_eq_true ⟨rfl, rfl, rfl, rfl, rfl⟩
end
end My

namespace My
open PySem PySem.Spec PyProof.Rows L2
/-! the steps of a tally as one endless sequence -/
theorem mv_mv (l g l' g' : Int) (x : Sti) : mv l g (mv l' g' x) = mv (l' + l) (g' + g) x := by
  show ((x.1 + l') + l, (x.2 + g') + g) = (x.1 + (l' + l), x.2 + (g' + g))
  rw [Int.add_assoc, Int.add_assoc]
theorem mv_zero (x : Sti) : mv 0 0 x = x := by
  show (x.1 + 0, x.2 + 0) = x
  rw [Int.add_zero, Int.add_zero]
theorem mv_comm (l g l' g' : Int) (x : Sti) : mv l g (mv l' g' x) = mv l' g' (mv l g x) := by
  rw [mv_mv, mv_mv, Int.add_comm l', Int.add_comm g']
theorem mv_inj {l g : Int} {x y : Sti} (h : mv l g x = mv l g y) : x = y := by
  have h1 : x.1 + l = y.1 + l := congrArg Prod.fst h
  have h2 : x.2 + g = y.2 + g := congrArg Prod.snd h
  exact Prod.ext (by omega) (by omega)
structure IsSeq (g a : List Sti) (t m : Int) (s : Nat → Sti) : Prop where
  pos : 0 < a.length
  st : ∀ n x, (g ++ a)[n]? = some x → s n = x
  per : ∀ n, g.length ≤ n → s (n + a.length) = mv t m (s n)
def PerAt (s : Nat → Sti) (b p : Nat) (l g : Int) : Prop := ∀ n, b ≤ n → s (n + p) = mv l g (s n)
theorem PerAt.iter {s : Nat → Sti} {b p : Nat} {l g : Int} (h : PerAt s b p l g) {n : Nat} (hn : b ≤ n) : ∀ j : Nat, s (n + j * p) = mv ((j : Int) * l) ((j : Int) * g) (s n)
  | 0 => by rw [Nat.zero_mul, Nat.add_zero, Int.natCast_zero, Int.zero_mul, Int.zero_mul, mv_zero]
  | j + 1 => by
    rw [show n + (j + 1) * p = (n + j * p) + p by rw [Nat.succ_mul, Nat.add_assoc], h _ (by omega), PerAt.iter h hn j, mv_mv]
    rw [show ((j + 1 : Nat) : Int) = (j : Int) + 1 by omega, Int.add_mul, Int.one_mul, Int.add_mul, Int.one_mul]
section
variable {g a : List Sti} {t m : Int} {s s' : Nat → Sti}
theorem IsSeq.perAt (S : IsSeq g a t m s) : PerAt s g.length a.length t m := S.per
theorem IsSeq.of (S : IsSeq g a t m s) {n : Nat} (h : n < g.length + a.length) : (g ++ a)[n]? = some (s n) := by
  have l : n < (g ++ a).length := by rw [List.length_append]; exact h
  have e : (g ++ a)[n]? = some (g ++ a)[n] := List.getElem?_eq_getElem l
  rw [e, S.st n _ e]
theorem IsSeq.uniq (S : IsSeq g a t m s) (S' : IsSeq g a t m s') : ∀ n, s n = s' n := by
  intro n
  induction n using Nat.strongRecOn with
  | _ n ih =>
    by_cases h : n < g.length + a.length
    · exact Option.some.inj ((S.of h).symm.trans (S'.of h))
    · have p := S.pos
      obtain ⟨k, rfl⟩ : ∃ k, n = k + a.length := ⟨n - a.length, by omega⟩
      rw [S.per k (by omega), S'.per k (by omega), ih k (by omega)]
/-- the sequence -/
def sq (g a : List Sti) (t m : Int) (n : Nat) : Sti := if n < g.length then (g[n]?).getD (0, 0) else mv ((((n - g.length) / a.length : Nat) : Int) * t) ((((n - g.length) / a.length : Nat) : Int) * m) ((a[(n - g.length) % a.length]?).getD (0, 0))
theorem sq_is (h : 0 < a.length) : IsSeq g a t m (sq g a t m) := by
  refine ⟨h, fun n x e => ?_, fun n hn => ?_⟩
  · unfold sq
    by_cases c : n < g.length
    · rw [if_pos c]
      rw [List.getElem?_append_left c] at e
      rw [e]
      rfl
    · rw [if_neg c]
      rw [List.getElem?_append_right (by omega)] at e
      have l : n - g.length < a.length := (List.getElem?_eq_some_iff.mp e).1
      rw [Nat.div_eq_of_lt l, Nat.mod_eq_of_lt l, e, Int.natCast_zero, Int.zero_mul, Int.zero_mul, mv_zero]
      rfl
  · unfold sq
    rw [if_neg (by omega), if_neg (by omega), show n + a.length - g.length = (n - g.length) + a.length by omega, Nat.add_div_right _ h, Nat.add_mod_right, mv_mv]
    rw [show (((n - g.length) / a.length + 1 : Nat) : Int) = (((n - g.length) / a.length : Nat) : Int) + 1 by omega, Int.add_mul, Int.one_mul, Int.add_mul, Int.one_mul]
theorem IsSeq.roll {x : Sti} {r : List Sti} (S : IsSeq g (x :: r) t m s) : IsSeq (g ++ [x]) (r ++ [mv t m x]) t m s := by
  have hl : (r ++ [mv t m x]).length = (x :: r).length := by rw [List.length_append]; rfl
  have eq : (g ++ [x]) ++ (r ++ [mv t m x]) = (g ++ x :: r) ++ [mv t m x] := by simp
  refine ⟨by rw [hl]; exact S.pos, fun n y e => ?_, fun n hn => ?_⟩
  · rw [eq] at e
    by_cases c : n < (g ++ x :: r).length
    · rw [List.getElem?_append_left c] at e
      exact S.st n y e
    · rw [List.getElem?_append_right (by omega)] at e
      have h0 : n - (g ++ x :: r).length = 0 := by
        have := (List.getElem?_eq_some_iff.mp e).1
        rw [List.length_singleton] at this
        omega
      rw [h0] at e
      have e : mv t m x = y := Option.some.inj e
      have en : n = g.length + (x :: r).length := by rw [List.length_append] at c h0; omega
      rw [en, S.per _ (Nat.le_refl _), S.st g.length x (by rw [List.getElem?_append_right (Nat.le_refl _), Nat.sub_self]; rfl), e]
  · rw [hl]
    rw [List.length_append] at hn
    exact S.per n (by omega)
theorem widen_at (a : List Sti) (t m : Int) : ∀ (k n : Nat) (x : Sti), (widen a t m k)[n]? = some x → ∃ j i y, j < k ∧ n = j * a.length + i ∧ a[i]? = some y ∧ x = mv ((j : Int) * t) ((j : Int) * m) y
  | 0, n, x, e => by
    have e : ([] : List Sti)[n]? = some x := e
    cases e
  | k + 1, n, x, e => by
    rw [widen_succ] at e
    by_cases c : n < (widen a t m k).length
    · rw [List.getElem?_append_left c] at e
      obtain ⟨j, i, y, h1, h2⟩ := widen_at a t m k n x e
      exact ⟨j, i, y, by omega, h2⟩
    · rw [List.getElem?_append_right (by omega), List.getElem?_map, widen_len] at e
      obtain ⟨y, hy, hx⟩ := Option.map_eq_some_iff.mp e
      rw [widen_len] at c
      exact ⟨k, n - k * a.length, y, by omega, by omega, hy, hx.symm⟩
theorem IsSeq.widen (S : IsSeq g a t m s) {k : Nat} (hk : 0 < k) : IsSeq g (widen a t m k) (t * k) (m * k) s := by
  refine ⟨by rw [widen_len]; exact Nat.mul_pos hk S.pos, fun n x e => ?_, fun n hn => ?_⟩
  · by_cases c : n < g.length
    · rw [List.getElem?_append_left c] at e
      exact S.st n x (by rw [List.getElem?_append_left c]; exact e)
    · rw [List.getElem?_append_right (by omega)] at e
      obtain ⟨j, i, y, _, hn, hy, rfl⟩ := widen_at a t m k _ x e
      have hi : i < a.length := (List.getElem?_eq_some_iff.mp hy).1
      rw [show n = (g.length + i) + j * a.length by omega, S.perAt.iter (by omega) j, S.st (g.length + i) y (by rw [List.getElem?_append_right (by omega), Nat.add_sub_cancel_left]; exact hy)]
  · rw [widen_len, S.perAt.iter hn k, Int.mul_comm t, Int.mul_comm m]
theorem IsSeq.short (S : IsSeq g a t m s) {b : Nat} (hb : b ≤ g.length) (h : ∀ n, b ≤ n → n < g.length → (g ++ a)[n + a.length]? = ((g ++ a)[n]?).map (mv t m)) : IsSeq ((g ++ a).take b) (((g ++ a).drop b).take a.length) t m s := by
  have lw : (g ++ a).length = g.length + a.length := List.length_append
  have l1 : ((g ++ a).take b).length = b := by rw [List.length_take]; omega
  have l2 : (((g ++ a).drop b).take a.length).length = a.length := by rw [List.length_take, List.length_drop]; omega
  have eq : (g ++ a).take b ++ ((g ++ a).drop b).take a.length = (g ++ a).take (b + a.length) := by rw [List.take_add]
  refine ⟨by rw [l2]; exact S.pos, fun n x e => ?_, fun n hn => ?_⟩
  · rw [eq] at e
    have hlt : n < b + a.length := by
      have := (List.getElem?_eq_some_iff.mp e).1
      rw [List.length_take] at this
      omega
    rw [List.getElem?_take_of_lt hlt] at e
    exact S.st n x e
  · rw [l2]
    rw [l1] at hn
    by_cases c : n < g.length
    · have e := h n hn c
      rw [S.of (n := n) (by omega), S.of (n := n + a.length) (by omega)] at e
      exact Option.some.inj e
    · exact S.per n (by omega)
theorem IsSeq.least (S : IsSeq g a t m s) {p : Nat} (F : FitsS a t m p) : IsSeq g (a.take p) (t * p / a.length) (m * p / a.length) s := by
  obtain ⟨c, hc⟩ := F.dvd
  have p0 := F.pos
  have l0 := S.pos
  have c0 : 0 < c := by
    rcases Nat.eq_zero_or_pos c with z | z
    · rw [z, Nat.mul_zero] at hc
      omega
    · exact z
  have lp : p ≤ a.length := Nat.le_of_dvd l0 F.dvd
  have num : ∀ z : Int, (z * p) % a.length = 0 → z = (c : Int) * (z * p / a.length) := fun z hz => by
    have h1 := Int.mul_ediv_add_emod (z * p) a.length
    rw [hz, Int.add_zero] at h1
    generalize z * p / (a.length : Int) = q at h1 ⊢
    have hp : (p : Int) ≠ 0 := by omega
    refine Int.eq_of_mul_eq_mul_right hp ?_
    rw [← h1, hc, Int.natCast_mul, Int.mul_assoc, Int.mul_assoc, Int.mul_comm (p : Int), Int.mul_assoc]
  have ht := num t F.n1
  have hm := num m F.n2
  have feq := F.eq
  generalize t * p / (a.length : Int) = t' at *
  generalize m * p / (a.length : Int) = m' at *
  have lt : (a.take p).length = p := by rw [List.length_take]; omega
  -- one step within the first turn
  have st1 : ∀ i, i + p < a.length → s (g.length + i + p) = mv t' m' (s (g.length + i)) := fun i hi => by
    have e := congrArg (fun l => l[i]?) feq
    simp only [List.getElem?_drop, List.getElem?_map] at e
    rw [List.getElem?_take_of_lt (by omega), Nat.add_comm p i] at e
    have e1 := S.of (n := g.length + i) (by omega)
    have e2 := S.of (n := g.length + (i + p)) (by omega)
    rw [List.getElem?_append_right (by omega), Nat.add_sub_cancel_left] at e1 e2
    rw [e1, e2] at e
    rw [Nat.add_assoc]
    exact Option.some.inj e
  have iter1 : ∀ (j i : Nat), i + j * p < a.length → s (g.length + i + j * p) = mv ((j : Int) * t') ((j : Int) * m') (s (g.length + i)) := by
    intro j
    induction j with
    | zero =>
      intro i _
      rw [Nat.zero_mul, Nat.add_zero, Int.natCast_zero, Int.zero_mul, Int.zero_mul, mv_zero]
    | succ j ih =>
      intro i hi
      have e : i + (j + 1) * p = (i + j * p) + p := by rw [Nat.succ_mul, Nat.add_assoc]
      rw [e] at hi
      rw [Nat.add_assoc, e, ← Nat.add_assoc, st1 (i + j * p) hi, ← Nat.add_assoc, ih i (by omega), mv_mv]
      rw [show ((j + 1 : Nat) : Int) = (j : Int) + 1 by omega, Int.add_mul, Int.one_mul, Int.add_mul, Int.one_mul]
  have first : ∀ i, i < a.length → s (g.length + i + p) = mv t' m' (s (g.length + i)) := fun i hi => by
    by_cases h : i + p < a.length
    · exact st1 i h
    · obtain ⟨r, hr⟩ : ∃ r, i + p = r + a.length := ⟨i + p - a.length, by omega⟩
      have hcp : a.length = (c - 1) * p + p := by
        rw [hc, ← Nat.succ_mul, show (c - 1).succ = c by omega, Nat.mul_comm]
      have hi2 : i = r + (c - 1) * p := by omega
      rw [Nat.add_assoc, hr, ← Nat.add_assoc, S.per _ (by omega), hi2, ← Nat.add_assoc, iter1 (c - 1) r (by omega), mv_mv]
      have ec : ((c - 1 : Nat) : Int) = (c : Int) - 1 := by omega
      rw [ec, Int.sub_mul, Int.one_mul, Int.sub_mul, Int.one_mul, ← ht, ← hm, show t - t' + t' = t by omega, show m - m' + m' = m by omega]
  refine ⟨by rw [lt]; exact p0, fun n x e => ?_, fun n hn => ?_⟩
  · by_cases cc : n < g.length
    · rw [List.getElem?_append_left cc] at e
      exact S.st n x (by rw [List.getElem?_append_left cc]; exact e)
    · rw [List.getElem?_append_right (by omega)] at e
      have hl := (List.getElem?_eq_some_iff.mp e).1
      rw [lt] at hl
      rw [List.getElem?_take_of_lt hl] at e
      exact S.st n x (by rw [List.getElem?_append_right (by omega)]; exact e)
  · rw [lt]
    obtain ⟨i, rfl⟩ := Nat.le.dest hn
    induction i using Nat.strongRecOn with
    | _ i ih =>
      by_cases h : i < a.length
      · exact first i h
      · obtain ⟨k, rfl⟩ : ∃ k, i = k + a.length := ⟨i - a.length, by omega⟩
        have e1 : g.length + (k + a.length) + p = (g.length + k + p) + a.length := by omega
        rw [e1, S.per _ (by omega), ih k (by omega) (by omega), ← Nat.add_assoc, S.per _ (by omega), mv_comm]
end
end My

namespace My
open PySem PySem.Spec PyProof.Rows L2
/-! the least form is one -/
/-- p: the least number of steps after which all comes again, from some step on -/
def MinP (s : Nat → Sti) (p : Nat) : Prop := ∀ p' b l g, 0 < p' → p' < p → ¬ PerAt s b p' l g
section
variable {g a g2 a2 : List Sti} {t m t2 m2 : Int} {s : Nat → Sti}
theorem PerAt.up {b b' p : Nat} {l h : Int} (P : PerAt s b p l h) (hb : b ≤ b') : PerAt s b' p l h := fun n hn => P n (by omega)
/-- two numbers of steps: their difference -/
theorem PerAt.sub {b p q : Nat} {l h l2 h2 : Int} (P : PerAt s b p l h) (Q : PerAt s b q l2 h2) (lt : p < q) : PerAt s (b + p) (q - p) (l2 - l) (h2 - h) := fun n hn => by
  obtain ⟨k, rfl⟩ : ∃ k, n = k + p := ⟨n - p, by omega⟩
  rw [show k + p + (q - p) = k + q by omega, Q k (by omega), P k (by omega), mv_mv]
  rw [show l + (l2 - l) = l2 by omega, show h + (h2 - h) = h2 by omega]
theorem per_gcd : ∀ (N p q b : Nat) (l h l2 h2 : Int), p + q ≤ N → 0 < p → 0 < q → PerAt s b p l h → PerAt s b q l2 h2 → ∃ b' l' h', PerAt s b' (Nat.gcd p q) l' h'
  | 0, p, q, b, l, h, l2, h2, hN, hp, hq, P, Q => by omega
  | N + 1, p, q, b, l, h, l2, h2, hN, hp, hq, P, Q => by
    rcases Nat.lt_trichotomy p q with c | c | c
    · obtain ⟨b', l', h', R⟩ := per_gcd N p (q - p) (b + p) l h _ _ (by omega) hp (by omega) (P.up (by omega)) (P.sub Q c)
      have e : Nat.gcd p (q - p) = Nat.gcd p q := Nat.gcd_sub_self_right (by omega)
      rw [e] at R
      exact ⟨b', l', h', R⟩
    · subst c
      rw [Nat.gcd_self]
      exact ⟨b, l, h, P⟩
    · obtain ⟨b', l', h', R⟩ := per_gcd N (p - q) q (b + q) _ _ l2 h2 (by omega) (by omega) hq (Q.sub P c) (Q.up (by omega))
      have e : Nat.gcd (p - q) q = Nat.gcd p q := Nat.gcd_sub_self_left (by omega)
      rw [e] at R
      exact ⟨b', l', h', R⟩
/-- what comes again from some step on does so from the first one on -/
theorem IsSeq.back (S : IsSeq g a t m s) {b p : Nat} {l h : Int} (P : PerAt s b p l h) : PerAt s g.length p l h := fun n hn => by
  have key := S.perAt.iter (n := n) hn b
  have key2 := S.perAt.iter (n := n + p) (by omega) b
  have big : b ≤ n + b * a.length := by
    have := Nat.mul_le_mul_left b S.pos
    omega
  have e := P (n + b * a.length) big
  rw [key, show n + b * a.length + p = n + p + b * a.length by omega, key2, mv_comm] at e
  exact mv_inj e
theorem IsSeq.fits (S : IsSeq g a t m s) {p : Nat} {l h : Int} (hp : 0 < p) (d : p ∣ a.length) (P : PerAt s g.length p l h) : FitsS a t m p := by
  obtain ⟨c, hc⟩ := d
  have l0 := S.pos
  have e1 := P.iter (n := g.length) (Nat.le_refl _) c
  have e2 := S.per g.length (Nat.le_refl _)
  rw [show c * p = a.length by rw [hc, Nat.mul_comm]] at e1
  rw [e2] at e1
  have ht : t = (c : Int) * l := by
    have : (s g.length).1 + t = (s g.length).1 + (c : Int) * l := congrArg Prod.fst e1
    omega
  have hm : m = (c : Int) * h := by
    have : (s g.length).2 + m = (s g.length).2 + (c : Int) * h := congrArg Prod.snd e1
    omega
  have tp : ∀ z : Int, (c : Int) * z * p = z * a.length := fun z => by
    rw [hc, Int.natCast_mul, Int.mul_comm (c : Int) z, Int.mul_assoc, Int.mul_comm (c : Int)]
  have la : (a.length : Int) ≠ 0 := by omega
  refine ⟨hp, ⟨c, hc⟩, ?_, ?_, ?_⟩
  · rw [ht, tp]
    exact Int.mul_emod_left ..
  · rw [hm, tp]
    exact Int.mul_emod_left ..
  · rw [ht, tp, Int.mul_ediv_cancel _ la, hm, tp, Int.mul_ediv_cancel _ la]
    refine List.ext_getElem? fun i => ?_
    rw [List.getElem?_drop, List.getElem?_map]
    by_cases hi : i < a.length - p
    · rw [List.getElem?_take_of_lt hi]
      have f1 := S.of (n := g.length + i) (by omega)
      have f2 := S.of (n := g.length + (p + i)) (by omega)
      rw [List.getElem?_append_right (by omega), Nat.add_sub_cancel_left] at f1 f2
      rw [f1, f2]
      show some _ = some _
      rw [show g.length + (p + i) = g.length + i + p by omega, P _ (by omega)]
    · rw [List.getElem?_eq_none (by omega), List.getElem?_eq_none (by rw [List.length_take]; omega)]
      rfl
theorem IsSeq.minP (S : IsSeq g a t m s) {p : Nat} (hl : ∀ p', p' < p → ¬ FitsS a t m p') : MinP s p := fun p' b l h h0 hlt P => by
  have Pg := S.back P
  obtain ⟨b', l', h', R⟩ := per_gcd (p' + a.length) p' a.length g.length l h t m (Nat.le_refl _) h0 S.pos Pg S.perAt
  have gp : 0 < Nat.gcd p' a.length := Nat.gcd_pos_of_pos_left _ h0
  have gl : Nat.gcd p' a.length ≤ p' := Nat.gcd_le_left _ h0
  exact hl _ (by omega) (S.fits gp (Nat.gcd_dvd_right _ _) (S.back R))
/-- a form of the least turn that begins as early as can be -/
structure Canon (g a : List Sti) (t m : Int) (s : Nat → Sti) : Prop where
  seq : IsSeq g a t m s
  min : MinP s a.length
  early : ∀ b l h, b < g.length → ¬ PerAt s b a.length l h
theorem Canon.uniq (A : Canon g a t m s) (B : Canon g2 a2 t2 m2 s) : g = g2 ∧ a = a2 ∧ t = t2 ∧ m = m2 := by
  have el : a.length = a2.length := by
    rcases Nat.lt_trichotomy a.length a2.length with c | c | c
    · exact absurd A.seq.perAt (B.min _ _ _ _ A.seq.pos c)
    · exact c
    · exact absurd B.seq.perAt (A.min _ _ _ _ B.seq.pos c)
  have eg : g.length = g2.length := by
    rcases Nat.lt_trichotomy g.length g2.length with c | c | c
    · exact absurd (el ▸ A.seq.perAt) (B.early _ _ _ c)
    · exact c
    · exact absurd (el ▸ B.seq.perAt) (A.early _ _ _ c)
  have ew : g ++ a = g2 ++ a2 := by
    refine List.ext_getElem? fun n => ?_
    by_cases h : n < g.length + a.length
    · rw [A.seq.of h, B.seq.of (by omega)]
    · rw [List.getElem?_eq_none (by rw [List.length_append]; omega), List.getElem?_eq_none (by rw [List.length_append]; omega)]
  obtain ⟨h1, h2⟩ := List.append_inj ew eg
  have e1 := A.seq.per (g.length) (Nat.le_refl _)
  have e2 := B.seq.per (g2.length) (Nat.le_refl _)
  rw [← eg, ← el] at e2
  rw [e1] at e2
  have f1 : (s g.length).1 + t = (s g.length).1 + t2 := congrArg Prod.fst e2
  have f2 : (s g.length).2 + m = (s g.length).2 + m2 := congrArg Prod.snd e2
  exact ⟨h1, h2, by omega, by omega⟩
end
/-- the made form of a form with steps that come again -/
theorem made_canon {gs : List Sti} {a : List Sti} {t m : Int} {f' : List Stp} {a' : List Sti} {t' m' : Int} {s : Nat → Sti} (ha : a ≠ []) (S : IsSeq gs a t m s) (M : MadeT (gs.map up) a t m f' a' t' m') : ∃ g', f' = g'.map up ∧ Canon g' a' t' m' s := by
  obtain ⟨p, b, L, Sh, rfl, ha', rfl, rfl⟩ := M
  have F := L.fits ha
  have p0 := L.pos ha
  have S1 := S.least F
  have lt : (a.take p).length = p := by rw [List.length_take]; have := L.le; omega
  generalize t * p / (a.length : Int) = t1 at *
  generalize m * p / (a.length : Int) = m1 at *
  have ew : gs.map up ++ (a.take p).map up = (gs ++ a.take p).map up := by rw [List.map_append]
  rw [ew] at Sh ha' ⊢
  rw [← List.map_drop, ← List.map_take] at ha'
  have ha2 : a' = ((gs ++ a.take p).drop b).take p := ups_inj.mp ha'
  have hb : b ≤ gs.length := by have := Sh.le; rw [List.length_map] at this; exact this
  have heq : ∀ n, b ≤ n → n < gs.length → (gs ++ a.take p)[n + (a.take p).length]? = ((gs ++ a.take p)[n]?).map (mv t1 m1) := fun n h1 h2 => by
    have e := Sh.eq n h1 (by rw [List.length_map]; exact h2)
    rw [List.getElem?_map, List.getElem?_map, Option.map_map] at e
    rw [lt]
    cases hx : (gs ++ a.take p)[n + p]? with
    | none =>
      rw [hx] at e
      cases hy : (gs ++ a.take p)[n]? with
      | none => rfl
      | some y =>
        rw [hy] at e
        cases e
    | some x =>
      rw [hx] at e
      cases hy : (gs ++ a.take p)[n]? with
      | none =>
        rw [hy] at e
        cases e
      | some y =>
        rw [hy] at e
        have e : up x = up (mv t1 m1 y) := Option.some.inj e
        rw [up_inj e]
        rfl
  have S2 := S1.short hb heq
  rw [lt] at S2
  have lg : ((gs ++ a.take p).take b).length = b := by rw [List.length_take, List.length_append]; omega
  have la2 : a'.length = p := by rw [ha2, List.length_take, List.length_drop, List.length_append, lt]; omega
  refine ⟨(gs ++ a.take p).take b, by rw [List.map_take], ?_, ?_, ?_⟩
  · rw [ha2]
    exact S2
  · rw [la2]
    exact S.minP L.least
  · intro b2 l h hb2 P
    rw [lg] at hb2
    rw [la2] at P
    rcases Sh.least with z | z | z
    · omega
    · omega
    · refine z ?_
      have hP : PerAt s b p t1 m1 := by
        have := S2.perAt
        rw [lg, show (((gs ++ a.take p).drop b).take p).length = p by rw [← ha2]; exact la2] at this
        exact this
      have e1 := P b (by omega)
      have e2 := hP b (Nat.le_refl _)
      rw [e2] at e1
      have el : t1 = l := by
        have : (s b).1 + t1 = (s b).1 + l := congrArg Prod.fst e1
        omega
      have eh : m1 = h := by
        have : (s b).2 + m1 = (s b).2 + h := congrArg Prod.snd e1
        omega
      subst el eh
      have e3 := P (b - 1) (by omega)
      have o1 := S1.of (n := b - 1) (by rw [lt]; omega)
      have o2 := S1.of (n := b - 1 + p) (by rw [lt]; omega)
      rw [List.getElem?_map, List.getElem?_map, o1, o2, e3]
      rfl
end My

namespace My
open PySem PySem.Spec PyProof.Rows L2
section
variable {g a : List Sti} {t m : Int} {s : Nat → Sti}
/-! what the law asks of a least form -/
theorem IsSeq.at_a (S : IsSeq g a t m s) {i : Nat} (h : i < a.length) : a[i]? = some (s (g.length + i)) := by
  have e := S.of (n := g.length + i) (by omega)
  rw [List.getElem?_append_right (by omega), Nat.add_sub_cancel_left] at e
  exact e
theorem IsSeq.at_g (S : IsSeq g a t m s) {i : Nat} (h : i < g.length) : g[i]? = some (s i) := by
  have e := S.of (n := i) (by omega)
  rw [List.getElem?_append_left h] at e
  exact e
theorem IsSeq.wide (S : IsSeq g a t m s) {i : Nat} (h : i < a.length + a.length) : (wideL a t m)[i]? = some (s (g.length + i)) := by
  unfold wideL
  by_cases c : i < a.length
  · rw [List.getElem?_append_left c, S.at_a c]
  · rw [List.getElem?_append_right (by omega), List.getElem?_map, S.at_a (by omega)]
    show some (mv t m (s (g.length + (i - a.length)))) = _
    rw [← S.per _ (by omega), show g.length + (i - a.length) + a.length = g.length + i by omega]
theorem Canon.law (A : Canon g a t m s) : CanonL (g.map up) a t m := by
  have S := A.seq
  have l0 := S.pos
  have hne : a ≠ [] := fun z => by rw [z] at l0; exact absurd l0 (by decide)
  refine ⟨fun z => absurd z hne, fun _ x hx => ?_, fun k k1 k2 _ => ?_, fun _ x y hx hy z => ?_⟩
  · obtain ⟨w, _, rfl⟩ := List.mem_map.mp hx
    exact fun q => nomatch q
  · refine Classical.byContradiction fun no => ?_
    have all_ : ∀ i, i < a.length → gapL a t m k i = gapL a t m k 0 := fun i hi => Classical.byContradiction fun q => no ⟨i, hi, q⟩
    have gap : ∀ i, i < a.length → s (g.length + i + k) = mv (gapL a t m k 0).1 (gapL a t m k 0).2 (s (g.length + i)) := fun i hi => by
      rw [← all_ i hi]
      unfold gapL
      rw [S.wide (i := i + k) (by omega), S.wide (i := i) (by omega), ← Nat.add_assoc]
      show _ = ((s (g.length + i)).1 + ((s (g.length + i + k)).1 - (s (g.length + i)).1), (s (g.length + i)).2 + ((s (g.length + i + k)).2 - (s (g.length + i)).2))
      exact Prod.ext (by show (s (g.length + i + k)).1 = _; dsimp only; omega) (by show (s (g.length + i + k)).2 = _; dsimp only; omega)
    generalize (gapL a t m k 0).1 = e1 at gap
    generalize (gapL a t m k 0).2 = e2 at gap
    refine A.min k g.length e1 e2 k1 k2 fun n hn => ?_
    obtain ⟨i, rfl⟩ := Nat.le.dest hn
    clear hn
    induction i using Nat.strongRecOn with
    | _ i ih =>
      by_cases h : i < a.length
      · exact gap i h
      · obtain ⟨j, rfl⟩ : ∃ j, i = j + a.length := ⟨i - a.length, by omega⟩
        have e : g.length + (j + a.length) + k = (g.length + j + k) + a.length := by omega
        rw [e, S.per _ (by omega), ih j (by omega), ← Nat.add_assoc, S.per _ (by omega), mv_comm]
  · rw [List.getLast?_map] at hx
    obtain ⟨x', hx', rfl⟩ := Option.map_eq_some_iff.mp hx
    have g0 : 0 < g.length := by
      cases g with
      | nil => cases hx'
      | cons _ _ => exact Nat.succ_pos _
    rw [List.getLast?_eq_getElem?] at hx' hy
    rw [S.at_g (by omega)] at hx'
    rw [S.at_a (by omega)] at hy
    have ex : s (g.length - 1) = x' := Option.some.inj hx'
    have ey : s (g.length + (a.length - 1)) = y := Option.some.inj hy
    have ez : mv t m x' = y := up_inj z
    refine A.early (g.length - 1) t m (by omega) fun n hn => ?_
    by_cases c : n = g.length - 1
    · rw [c, ex, ez, ← ey, show g.length - 1 + a.length = g.length + (a.length - 1) by omega]
    · exact S.per n (by omega)
theorem canonL_nil (f : List Stp) : CanonL f [] 0 0 := ⟨fun _ => ⟨rfl, rfl⟩, fun h => absurd rfl h, fun k h1 h2 => absurd h2 (by rw [List.length_nil]; omega), fun h => absurd rfl h⟩
/-! what is told, by the sequence -/
def Rise (s : Nat → Sti) : Prop := ∀ n, (s n).1 < (s (n + 1)).1 ∧ (s n).2 < (s (n + 1)).2
theorem Rise.lt {s : Nat → Sti} (R : Rise s) {i j : Nat} (h : i < j) : (s i).1 < (s j).1 ∧ (s i).2 < (s j).2 := by
  obtain ⟨d, rfl⟩ := Nat.le.dest h
  induction d with
  | zero => exact R i
  | succ d ih =>
    have h1 := ih (by omega)
    have h2 := R (i + 1 + d)
    exact ⟨Int.lt_trans h1.1 h2.1, Int.lt_trans h1.2 h2.2⟩
theorem Rise.le {s : Nat → Sti} (R : Rise s) {i j : Nat} (h : i ≤ j) : (s i).1 ≤ (s j).1 := by
  rcases Nat.eq_or_lt_of_le h with e | e
  · rw [e]
    exact Int.le_refl _
  · exact Int.le_of_lt (R.lt e).1
def Tell (u : Option Int) (s : Nat → Sti) (time : Int) (v : Option Int) : Prop := (time < (s 0).1 ∧ v = u) ∨ ∃ n, (s n).1 ≤ time ∧ time < (s (n + 1)).1 ∧ v = some (s n).2
theorem Tell.fun {u v v' : Option Int} {time : Int} {s : Nat → Sti} (R : Rise s) (h : Tell u s time v) (h' : Tell u s time v') : v = v' := by
  rcases h with ⟨h1, rfl⟩ | ⟨n, h1, h2, rfl⟩
  · rcases h' with ⟨_, rfl⟩ | ⟨n, h3, _, _⟩
    · rfl
    · have := R.le (Nat.zero_le n)
      omega
  · rcases h' with ⟨h3, _⟩ | ⟨k, h3, h4, rfl⟩
    · have := R.le (Nat.zero_le n)
      omega
    · have : n = k := by
        rcases Nat.lt_trichotomy n k with c | c | c
        · have := R.le (i := n + 1) (j := k) c
          omega
        · exact c
        · have := R.le (i := k + 1) (j := n) c
          omega
      rw [this]
theorem ups_get {l : List Sti} {n : Nat} {y : Stp} (h : (l.map up)[n]? = some y) : ∃ x, l[n]? = some x ∧ y = up x := by
  rw [List.getElem?_map] at h
  obtain ⟨x, e, rfl⟩ := Option.map_eq_some_iff.mp h
  exact ⟨x, e, rfl⟩
theorem told_tell (S : IsSeq g a t m s) (tp : 0 < t) {u v : Option Int} {time : Int} (h : ToldT u (g.map up) a t m time v) : Tell u s time v := by
  have l0 := S.pos
  have hd : a.head? = some (s g.length) := by
    have := S.at_a (i := 0) l0
    rw [List.head?_eq_getElem?, this, Nat.add_zero]
  cases h with
  | rep x y n hx lx e hy =>
    rw [hd] at hx
    cases hx
    have hn : n < a.length := (List.getElem?_eq_some_iff.mp hy).1
    rw [S.at_a hn] at hy
    cases hy
    have q0 : 0 ≤ (time - (s g.length).1) / t := Int.ediv_nonneg (by omega) (by omega)
    have dm := Int.mul_ediv_add_emod (time - (s g.length).1) t
    have r1 := Int.emod_lt_of_pos (time - (s g.length).1) tp
    have r0 := Int.emod_nonneg (time - (s g.length).1) (by omega : t ≠ 0)
    obtain ⟨q, hq⟩ : ∃ q : Nat, (time - (s g.length).1) / t = (q : Int) := ⟨((time - (s g.length).1) / t).toNat, by omega⟩
    rw [hq] at dm q0 ⊢
    generalize (time - (s g.length).1) % t = r at *
    have it := S.perAt.iter (n := g.length + n) (by omega) q
    rw [Int.mul_comm t] at dm
    refine Or.inr ⟨g.length + n + q * a.length, ?_, ?_, ?_⟩
    · rw [it]
      have := e.lo n (up (s (g.length + n))) (Nat.lt_succ_self n) (by rw [List.getElem?_map, S.at_a hn]; rfl)
      have this : (s (g.length + n)).1 ≤ (s g.length).1 + r := this
      show time ≥ (s (g.length + n)).1 + (q : Int) * t
      omega
    · by_cases c : n + 1 < a.length
      · have it2 := S.perAt.iter (n := g.length + (n + 1)) (by omega) q
        rw [show g.length + n + q * a.length + 1 = g.length + (n + 1) + q * a.length by omega, it2]
        have := e.hi (n + 1) (up (s (g.length + (n + 1)))) (Nat.le_refl _) (by rw [List.getElem?_map, S.at_a c]; rfl)
        have this : (s g.length).1 + r < (s (g.length + (n + 1))).1 := this
        show time < (s (g.length + (n + 1))).1 + (q : Int) * t
        omega
      · have it2 := S.perAt.iter (n := g.length) (Nat.le_refl _) (q + 1)
        have en : g.length + n + q * a.length + 1 = g.length + (q + 1) * a.length := by
          rw [Nat.succ_mul]
          omega
        rw [en, it2]
        show time < (s g.length).1 + ((q + 1 : Nat) : Int) * t
        rw [show ((q + 1 : Nat) : Int) = (q : Int) + 1 by omega, Int.add_mul, Int.one_mul]
        omega
    · rw [it]
      rfl
  | none hx e =>
    refine Or.inl ⟨?_, rfl⟩
    by_cases c : 0 < g.length
    · have := e.hi 0 (up (s 0)) (Nat.le_refl _) (by rw [List.getElem?_map, S.at_g c]; rfl)
      exact this
    · have := hx _ hd
      rw [show g.length = 0 by omega] at this
      exact this
  | some y n hx e hy =>
    obtain ⟨z, hz, rfl⟩ := ups_get hy
    have hn : n < g.length := (List.getElem?_eq_some_iff.mp hz).1
    rw [S.at_g hn] at hz
    cases hz
    refine Or.inr ⟨n, e.lo n _ (Nat.lt_succ_self n) hy, ?_, rfl⟩
    by_cases c : n + 1 < g.length
    · exact e.hi (n + 1) (up (s (n + 1))) (Nat.le_refl _) (by rw [List.getElem?_map, S.at_g c]; rfl)
    · have := hx _ hd
      rw [show g.length = n + 1 by omega] at this
      exact this
end
/-! the law's own way to tell -/
theorem asc_snoc {f : List Stp} {y : Stp} (h : Asc (f ++ [y])) : Asc f ∧ ∀ x ∈ f, x.1 < y.1 := by
  obtain ⟨h1, _, h3⟩ := List.pairwise_append.mp h
  exact ⟨h1, fun x hx => h3 x hx y (List.mem_singleton.mpr rfl)⟩
theorem rev_ind {α : Type} {p : List α → Prop} (h0 : p []) (h1 : ∀ l x, p l → p (l ++ [x])) (l : List α) : p l := by
  have : ∀ n (l : List α), l.length = n → p l := by
    intro n
    induction n with
    | zero =>
      intro l hl
      rw [List.length_eq_zero_iff.mp hl]
      exact h0
    | succ n ih =>
      intro l hl
      rcases List.eq_nil_or_concat l with e | ⟨l', x, e⟩
      · rw [e] at hl
        cases hl
      · rw [List.concat_eq_append] at e
        rw [e, List.length_append, List.length_singleton] at hl
        rw [e]
        exact h1 _ _ (ih l' (by omega))
  exact this _ l rfl
theorem fold_first (time : Int) (c : Option Int) (f : List Stp) : Asc f → (LastB f time 0 ∧ f.foldl (firstAt time) c = c) ∨ ∃ n y, LastB f time (n + 1) ∧ f[n]? = some y ∧ f.foldl (firstAt time) c = y.2 := by
  refine rev_ind (p := fun f => Asc f → (LastB f time 0 ∧ f.foldl (firstAt time) c = c) ∨ ∃ n y, LastB f time (n + 1) ∧ f[n]? = some y ∧ f.foldl (firstAt time) c = y.2) (fun _ => Or.inl ⟨⟨Nat.le_refl _, fun i x h => absurd h (by omega), fun i x _ e => by cases e⟩, rfl⟩) (fun f y ih hs => ?_) f
  obtain ⟨hs1, hlt⟩ := asc_snoc hs
  rw [List.foldl_append]
  show (LastB (f ++ [y]) time 0 ∧ firstAt time (f.foldl (firstAt time) c) y = c) ∨ _
  by_cases hy : y.1 ≤ time
  · refine Or.inr ⟨f.length, y, ⟨by rw [List.length_append]; exact Nat.le_refl _, fun i x hi e => ?_, fun i x hi e => absurd (List.getElem?_eq_some_iff.mp e).1 (by rw [List.length_append, List.length_singleton]; omega)⟩, by rw [List.getElem?_append_right (Nat.le_refl _), Nat.sub_self]; rfl, ?_⟩
    · by_cases c2 : i < f.length
      · rw [List.getElem?_append_left c2] at e
        have := hlt x (List.mem_of_getElem? e)
        omega
      · rw [List.getElem?_append_right (by omega), show i - f.length = 0 by omega] at e
        cases e
        exact hy
    · show firstAt time (f.foldl (firstAt time) c) y = y.2
      unfold firstAt
      rw [if_pos hy]
  · have ef : firstAt time (f.foldl (firstAt time) c) y = f.foldl (firstAt time) c := by
      rw [firstAt, if_neg hy]
    have more : ∀ n, LastB f time n → LastB (f ++ [y]) time n := fun n h => ⟨by rw [List.length_append]; have := h.le; omega, fun i x hi e => h.lo i x hi (by
        rw [List.getElem?_append_left (by have := h.le; omega)] at e
        exact e), fun i x hi e => by
        by_cases c2 : i < f.length
        · rw [List.getElem?_append_left c2] at e
          exact h.hi i x hi e
        · rw [List.getElem?_append_right (by omega)] at e
          have : i - f.length = 0 := by
            have := (List.getElem?_eq_some_iff.mp e).1
            rw [List.length_singleton] at this
            omega
          rw [this] at e
          cases e
          omega⟩
    rcases ih hs1 with ⟨h1, h2⟩ | ⟨n, z, h1, h2, h3⟩
    · exact Or.inl ⟨more _ h1, by rw [ef, h2]⟩
    · refine Or.inr ⟨n, z, more _ h1, ?_, ?_⟩
      · rw [List.getElem?_append_left (List.getElem?_eq_some_iff.mp h2).1]
        exact h2
      · show firstAt time (f.foldl (firstAt time) c) y = z.2
        rw [ef, h3]
theorem fold_again (time tt mm : Int) (c : Option Int) : ∀ a : List Sti, a.foldl (againAt time tt mm) c = (a.map fun x => ((x.1, some (x.2 + mm)) : Stp)).foldl (firstAt (time - tt)) c := by
  intro a
  induction a generalizing c with
  | nil => rfl
  | cons x r ih =>
    rw [List.foldl_cons, List.map_cons, List.foldl_cons, ih]
    congr 1
    unfold againAt firstAt
    by_cases h : x.1 + tt ≤ time
    · rw [if_pos h, if_pos (by show x.1 ≤ time - tt; omega)]
    · rw [if_neg h, if_neg (by show ¬ x.1 ≤ time - tt; omega)]
theorem atL_told {u : Option Int} {f : List Stp} {a : List Sti} {t m time : Int} (hf : Asc f) (ha : Asc (a.map up)) (tp : a ≠ [] → 0 < t) : ToldT u f a t m time (atL u f a t m time) := by
  have first : (∀ x, a.head? = some x → time < x.1) → ToldT u f a t m time (f.foldl (firstAt time) u) := fun hx => by
    rcases fold_first time u f hf with ⟨h1, h2⟩ | ⟨n, y, h1, h2, h3⟩
    · rw [h2]
      exact .none hx h1
    · rw [h3]
      exact .some y n hx h1 h2
  cases a with
  | nil => exact first (fun x hx => nomatch hx)
  | cons x r =>
    show ToldT u f (x :: r) t m time (if x.1 ≤ time then (x :: r).foldl (againAt time ((time - x.1) / t * t) ((time - x.1) / t * m)) (f.foldl (firstAt time) u) else f.foldl (firstAt time) u)
    by_cases hx : x.1 ≤ time
    · rw [if_pos hx, fold_again]
      have t0 := tp (by simp)
      have dm := Int.mul_ediv_add_emod (time - x.1) t
      have r0 := Int.emod_nonneg (time - x.1) (by omega : t ≠ 0)
      rw [Int.mul_comm t] at dm
      have ha2 : Asc ((x :: r).map fun z => ((z.1, some (z.2 + (time - x.1) / t * m)) : Stp)) := by
        have h0 : ((x :: r).map up).Pairwise fun p q => p.1 < q.1 := ha
        rw [List.pairwise_map] at h0
        unfold Asc
        rw [List.pairwise_map]
        exact h0
      have back : ∀ n, LastB ((x :: r).map fun z => ((z.1, some (z.2 + (time - x.1) / t * m)) : Stp)) (time - (time - x.1) / t * t) n → LastB ((x :: r).map up) (x.1 + (time - x.1) % t) n := fun n h => by
        have et : time - (time - x.1) / t * t = x.1 + (time - x.1) % t := by omega
        rw [et] at h
        refine ⟨by have := h.le; rw [List.length_map] at this ⊢; exact this, fun i z hi e => ?_, fun i z hi e => ?_⟩
        · obtain ⟨w, ew, rfl⟩ := ups_get e
          exact h.lo i (w.1, some (w.2 + (time - x.1) / t * m)) hi (by rw [List.getElem?_map, ew]; rfl)
        · obtain ⟨w, ew, rfl⟩ := ups_get e
          exact h.hi i (w.1, some (w.2 + (time - x.1) / t * m)) hi (by rw [List.getElem?_map, ew]; rfl)
      rcases fold_first (time - (time - x.1) / t * t) (f.foldl (firstAt time) u) _ ha2 with ⟨h1, _⟩ | ⟨n, y, h1, h2, h3⟩
      · have := (back _ h1).hi 0 (up x) (Nat.le_refl _) rfl
        have this : x.1 + (time - x.1) % t < x.1 := this
        omega
      · rw [h3]
        rw [List.getElem?_map] at h2
        obtain ⟨z, hz, rfl⟩ := Option.map_eq_some_iff.mp h2
        exact .rep x z n rfl hx (back _ h1) hz
    · rw [if_neg hx]
      exact first (fun x' hx' => by cases hx'; omega)
end My

namespace My
open PySem PySem.Spec PyProof.Rows L2
/-! drawn tallies as sequences -/
def stepS (x y : Sti) : Prop := x.1 < y.1 ∧ y.1 ≤ x.1 + 3 ∧ x.2 < y.2 ∧ y.2 ≤ x.2 + 3
theorem chain_get : ∀ {x : Sti} {l : List Sti}, ChainS x l → ∀ i p q, (x :: l)[i]? = some p → (x :: l)[i + 1]? = some q → stepS p q
  | x, [], _, i, p, q, _, h2 => by
    rw [List.getElem?_cons_succ] at h2
    cases h2
  | x, y :: r, h, 0, p, q, h1, h2 => by
    cases h1
    cases h2
    exact h.1
  | x, y :: r, h, i + 1, p, q, h1, h2 => chain_get h.2 i p q h1 h2
theorem chain_app : ∀ {x : Sti} {l l2 : List Sti}, ChainS x l → ChainS (lastS x l) l2 → ChainS x (l ++ l2)
  | x, [], l2, _, h2 => h2
  | x, y :: r, l2, h1, h2 => by
    have e : lastS x (y :: r) = lastS y r := by
      unfold lastS
      rw [List.getLast?_cons]
      rfl
    rw [e] at h2
    exact ⟨h1.1, chain_app h1.2 h2⟩
/-- a form whose steps rise, each at most three on -/
structure GoodQ (u : Int) (g a : List Sti) (t m : Int) (s : Nat → Sti) : Prop where
  seq : IsSeq g a t m s
  step : ∀ n, stepS (s n) (s (n + 1))
  lo : -3 ≤ (s 0).1
  hi : (s 0).1 ≤ 6
  u0 : 0 ≤ u
  u3 : u ≤ 3
  un : u < (s 0).2
  un3 : (s 0).2 ≤ u + 3
theorem GoodQ.rise {u : Int} {g a : List Sti} {t m : Int} {s : Nat → Sti} (h : GoodQ u g a t m s) : Rise s := fun n => ⟨(h.step n).1, (h.step n).2.2.1⟩
theorem drawn_good {u t0 dt dm : Int} {ss as : List Sti} {x y : Sti} (hu : 0 ≤ u ∧ u ≤ 3) (ht : -4 ≤ t0 ∧ t0 ≤ 3) (hc : ChainS (t0, u) ss) (ha : ChainS (lastS (t0, u) ss) as) (hx : as.head? = some x) (hy : as.getLast? = some y) (hdt : 1 ≤ dt ∧ dt ≤ 3) (hdm : 1 ≤ dm ∧ dm ≤ 3) :
    GoodQ u ss as (y.1 - x.1 + dt) (y.2 - x.2 + dm) (sq ss as (y.1 - x.1 + dt) (y.2 - x.2 + dm)) := by
  have l0 : 0 < as.length := by
    cases as with
    | nil => cases hx
    | cons _ _ => exact Nat.succ_pos _
  have S := sq_is (g := ss) (a := as) (t := y.1 - x.1 + dt) (m := y.2 - x.2 + dm) l0
  generalize sq ss as (y.1 - x.1 + dt) (y.2 - x.2 + dm) = s at S
  have ch := chain_app hc ha
  have first : ∀ n, n < ss.length + as.length → ((t0, u) :: (ss ++ as))[n + 1]? = some (s n) := fun n h => by
    rw [List.getElem?_cons_succ]
    exact S.of h
  have s0 : stepS (t0, u) (s 0) := chain_get ch 0 _ _ rfl (first 0 (by omega))
  have ex : s ss.length = x := by
    have := S.at_a (i := 0) l0
    rw [List.head?_eq_getElem?] at hx
    rw [hx, Nat.add_zero] at this
    exact (Option.some.inj this).symm
  have ey : s (ss.length + (as.length - 1)) = y := by
    have := S.at_a (i := as.length - 1) (by omega)
    rw [List.getLast?_eq_getElem?] at hy
    rw [hy] at this
    exact (Option.some.inj this).symm
  have step : ∀ n, stepS (s n) (s (n + 1)) := by
    intro n
    induction n using Nat.strongRecOn with
    | _ n ih =>
      by_cases h : n + 1 < ss.length + as.length
      · exact chain_get ch (n + 1) _ _ (first n (by omega)) (first (n + 1) h)
      · by_cases h2 : n + 1 = ss.length + as.length
        · have e1 : s n = y := by rw [← ey, show ss.length + (as.length - 1) = n by omega]
          have e2 : s (n + 1) = mv (y.1 - x.1 + dt) (y.2 - x.2 + dm) x := by rw [h2, S.per _ (Nat.le_refl _), ex]
          rw [e1, e2]
          refine ⟨?_, ?_, ?_, ?_⟩
          · show y.1 < x.1 + (y.1 - x.1 + dt)
            omega
          · show x.1 + (y.1 - x.1 + dt) ≤ y.1 + 3
            omega
          · show y.2 < x.2 + (y.2 - x.2 + dm)
            omega
          · show x.2 + (y.2 - x.2 + dm) ≤ y.2 + 3
            omega
        · obtain ⟨k, rfl⟩ : ∃ k, n = k + as.length := ⟨n - as.length, by omega⟩
          have := ih k (by omega)
          rw [show k + as.length + 1 = (k + 1) + as.length by omega, S.per k (by omega), S.per (k + 1) (by omega)]
          obtain ⟨h1, h2, h3, h4⟩ := this
          exact ⟨by show (s k).1 + _ < (s (k + 1)).1 + _; omega, by show (s (k + 1)).1 + _ ≤ (s k).1 + _ + 3; omega, by show (s k).2 + _ < (s (k + 1)).2 + _; omega, by show (s (k + 1)).2 + _ ≤ (s k).2 + _ + 3; omega⟩
  obtain ⟨h1, h2, h3, h4⟩ := s0
  have h1 : t0 < (s 0).1 := h1
  have h2 : (s 0).1 ≤ t0 + 3 := h2
  exact ⟨S, step, by omega, by omega, hu.1, hu.2, h3, h4⟩
/-- rolled on: the same sequence -/
theorem rolls_seq {g a : List Sti} {t m : Int} {s : Nat → Sti} (S : IsSeq g a t m s) : ∀ n, ∃ g2 a2, rolls t m n (g.map up, a) = (g2.map up, a2) ∧ IsSeq g2 a2 t m s
  | 0 => ⟨g, a, rfl, S⟩
  | n + 1 => by
    obtain ⟨g2, a2, e, S2⟩ := rolls_seq S n
    cases a2 with
    | nil => exact absurd S2.pos (by decide)
    | cons x r =>
      refine ⟨g2 ++ [x], r ++ [mv t m x], ?_, S2.roll⟩
      show roll t m (rolls t m n (g.map up, a)) = _
      rw [e, List.map_append]
      rfl
theorem other_seq {g a : List Sti} {t m : Int} {s : Nat → Sti} {f' : List Stp} {a' : List Sti} {t' m' : Int} (S : IsSeq g a t m s) (O : Otherw (g.map up) a t m f' a' t' m') : ∃ g', f' = g'.map up ∧ IsSeq g' a' t' m' s := by
  rcases O with ⟨h, _⟩ | ⟨_, n, k, _, k1, _, rfl, rfl, rfl, rfl⟩
  · have := S.pos
    rw [h] at this
    exact absurd this (by decide)
  · obtain ⟨g2, a2, e, S2⟩ := rolls_seq S n
    rw [e]
    exact ⟨g2, rfl, S2.widen k1⟩
/-! right arguments -/
theorem stO_st (x : Stp) : stO (stD x) = x := by
  obtain ⟨t, c⟩ := x
  cases c <;> rfl
theorem stOs (l : List Stp) : (l.map stD).map stO = l := by
  rw [List.map_map]
  exact (List.map_congr_left fun x _ => stO_st x).trans (List.map_id l)
/-- steps that rise from a pair on -/
theorem rise_of : ∀ (l : List Sti) (x : Option Int × Option Int) (c : Int), x.2 = some c → (∀ y, l.head? = some y → c < y.2 ∧ ∀ t, x.1 = some t → t < y.1) → (∀ i p q, l[i]? = some p → l[i + 1]? = some q → p.1 < q.1 ∧ p.2 < q.2) → riseF x (l.map up) = true
  | [], _, _, _, _, _ => rfl
  | y :: r, x, c, hc, h0, h => by
    obtain ⟨a1, a2⟩ := h0 y rfl
    show (upC x.2 (some y.2) && (upT x.1 y.1 && riseF (prO (up y)) (r.map up))) = true
    rw [hc, show upC (some c) (some y.2) = true from decide_eq_true a1]
    have ut : upT x.1 y.1 = true := by
      cases hx : x.1 with
      | none => rfl
      | some t => exact decide_eq_true (a2 t hx)
    rw [ut, rise_of r (prO (up y)) y.2 rfl (fun z hz => ?_) (fun i p q h1 h2 => h (i + 1) p q h1 h2)]
    · rfl
    · have := h 0 y z rfl (by rw [List.getElem?_cons_succ, ← List.head?_eq_getElem?]; exact hz)
      exact ⟨this.2, fun t ht => by cases ht; exact this.1⟩
theorem all_fd {l : List Sti} (h : ∀ x ∈ l, 0 ≤ x.2) : (l.map siD).all isStepD = true ∧ ((l.map up).map stD).all isFD = true := by
  have one : ∀ x ∈ l, isStepD (siD x) = true := fun x hx => by
    show (isIntD (.int x.1) && isNumD (.int x.2)) = true
    rw [show isNumD (.int x.2) = true from decide_eq_true (h x hx)]
    rfl
  constructor
  · rw [List.all_eq_true]
    intro d hd
    obtain ⟨x, hx, rfl⟩ := List.mem_map.mp hd
    exact one x hx
  · rw [List.map_map, List.all_eq_true]
    intro d hd
    obtain ⟨x, hx, rfl⟩ := List.mem_map.mp hd
    show (isStepD (siD x) || isEndlD (siD x)) = true
    rw [one x hx]
    rfl
theorem GoodQ.cnt {u : Int} {g a : List Sti} {t m : Int} {s : Nat → Sti} (G : GoodQ u g a t m s) (n : Nat) : 0 < (s n).2 := by
  have := G.u0
  have := G.un
  rcases Nat.eq_zero_or_pos n with z | z
  · rw [z]
    omega
  · have := (G.rise.lt z).2
    omega
/-- what right arguments tell: nothing is wrong -/
theorem right_word {u : Int} {g a : List Sti} {t m : Int} {s : Nat → Sti} {g2 a2 : List Sti} {t2 m2 : Int} {d1 d2 : PyData} (G : GoodQ u g2 a2 t2 m2 s) (S : IsSeq g a t m s) (q1 : isSeqD d1 = true) (i1 : itemsD d1 = (g.map up).map stD) (q2 : isSeqD d2 = true) (i2 : itemsD d2 = a.map siD) :
    wordT (.int u) d1 d2 (.int t) (.int m) = none := by
  have l0 := S.pos
  have R := G.rise
  have hg : ∀ x ∈ g, 0 ≤ x.2 := fun x hx => by
    obtain ⟨i, hi⟩ := List.getElem?_of_mem hx
    have h1 := (List.getElem?_eq_some_iff.mp hi).1
    rw [S.at_g h1] at hi
    cases hi
    exact Int.le_of_lt (G.cnt i)
  have ha : ∀ x ∈ a, 0 ≤ x.2 := fun x hx => by
    obtain ⟨i, hi⟩ := List.getElem?_of_mem hx
    have h1 := (List.getElem?_eq_some_iff.mp hi).1
    rw [S.at_a h1] at hi
    cases hi
    exact Int.le_of_lt (G.cnt _)
  have as_ : a.map siD = (a.map up).map stD := by rw [List.map_map]; rfl
  have rg : riseF (none, some u) (g.map up) = true := rise_of g _ u rfl (fun y hy => by
    rw [List.head?_eq_getElem?] at hy
    have h1 := (List.getElem?_eq_some_iff.mp hy).1
    rw [S.at_g h1] at hy
    cases hy
    exact ⟨G.un, fun t ht => nomatch ht⟩) (fun i p q h1 h2 => by
    have l2 := (List.getElem?_eq_some_iff.mp h2).1
    rw [S.at_g (by omega)] at h1
    rw [S.at_g l2] at h2
    cases h1
    cases h2
    exact R i)
  have hx : a.head? = some (s g.length) := by
    have := S.at_a (i := 0) l0
    rw [List.head?_eq_getElem?, this, Nat.add_zero]
  have hy : a.getLast? = some (s (g.length + (a.length - 1))) := by
    rw [List.getLast?_eq_getElem?]
    exact S.at_a (by omega)
  have nx : s (g.length + a.length) = mv t m (s g.length) := S.per _ (Nat.le_refl _)
  have lt := R.lt (i := g.length + (a.length - 1)) (j := g.length + a.length) (by omega)
  rw [nx] at lt
  have lt1 : (s (g.length + (a.length - 1))).1 < (s g.length).1 + t := lt.1
  have lt2 : (s (g.length + (a.length - 1))).2 < (s g.length).2 + m := lt.2
  have le := R.le (i := g.length) (j := g.length + (a.length - 1)) (by omega)
  have le2 : (s g.length).2 ≤ (s (g.length + (a.length - 1))).2 := by
    by_cases e : a.length = 1
    · rw [e, Nat.sub_self, Nat.add_zero]
      exact Int.le_refl _
    · exact Int.le_of_lt (R.lt (by omega)).2
  have last : ∃ l : Option Int × Option Int, (((g.map up).getLast?.map prO).getD (none, some u)) = l ∧ ∃ c, l.2 = some c ∧ c < (s g.length).2 ∧ ∀ t, l.1 = some t → t < (s g.length).1 := by
    by_cases e : g.length = 0
    · have : g = [] := List.length_eq_zero_iff.mp e
      subst this
      exact ⟨_, rfl, u, rfl, G.un, fun t ht => nomatch ht⟩
    · have eg : g.getLast? = some (s (g.length - 1)) := by
        rw [List.getLast?_eq_getElem?]
        exact S.at_g (by omega)
      have := R.lt (i := g.length - 1) (j := g.length) (by omega)
      rw [List.getLast?_map, eg]
      exact ⟨_, rfl, _, rfl, this.2, fun t ht => by cases ht; exact this.1⟩
  obtain ⟨l, el, c, ec, lc, lt'⟩ := last
  have ra : riseF l (a.map up) = true := rise_of a _ c ec (fun y hy => by
    rw [hx] at hy
    cases hy
    exact ⟨lc, lt'⟩) (fun i p q h1 h2 => by
    have l2 := (List.getElem?_eq_some_iff.mp h2).1
    rw [S.at_a (by omega)] at h1
    rw [S.at_a l2] at h2
    cases h1
    cases h2
    exact R (g.length + i))
  unfold wordT
  rw [if_pos (show (isNonD (.int u) || isNumD (.int u)) = true by rw [show isNumD (.int u) = true from decide_eq_true G.u0]; rfl), q1, i1, (all_fd hg).2, if_pos (show (true && true) = true from rfl), stOs, show cO (.int u) = some u from rfl, if_pos rg]
  unfold wordA
  rw [q2, i2, (all_fd ha).1, if_pos (show (true && true) = true from rfl), show cO (.int u) = some u from rfl, el, as_, stOs]
  unfold wordR
  rw [ec, List.head?_map, List.getLast?_map, hx, hy]
  show (if riseF l (a.map up) = true then _ else _) = none
  rw [if_pos ra, if_pos (by rw [show isNumD (.int t) = true from decide_eq_true (by omega), Bool.true_and]; exact decide_eq_true (by show (s (g.length + (a.length - 1))).1 - (s g.length).1 < t; omega)),
    if_pos (by rw [show isNumD (.int m) = true from decide_eq_true (by omega), Bool.true_and]; exact decide_eq_true (by show (s (g.length + (a.length - 1))).2 - (s g.length).2 < m; omega))]
end My

namespace My
open PySem PySem.Spec PyProof.Rows L2
/-! the made form of a drawn tally tells what is due -/
theorem GoodQ.far {u : Int} {g a : List Sti} {t m : Int} {s : Nat → Sti} (G : GoodQ u g a t m s) (n : Nat) : ∀ k : Nat, (s (n + k)).1 ≤ (s n).1 + 3 * k ∧ (s (n + k)).2 ≤ (s n).2 + 3 * k ∧ (s n).1 + k ≤ (s (n + k)).1
  | 0 => ⟨by rw [Nat.add_zero]; omega, by rw [Nat.add_zero]; omega, by rw [Nat.add_zero]; omega⟩
  | k + 1 => by
    obtain ⟨h1, h2, h3⟩ := GoodQ.far G n k
    obtain ⟨a1, a2, a3, a4⟩ := G.step (n + k)
    rw [show n + (k + 1) = n + k + 1 by omega]
    exact ⟨by omega, by omega, by omega⟩
theorem asc_parts {g a : List Sti} {t m : Int} {s : Nat → Sti} (S : IsSeq g a t m s) (R : Rise s) : Asc (g.map up) ∧ Asc (a.map up) := by
  constructor
  · unfold Asc
    rw [List.pairwise_map, List.pairwise_iff_getElem]
    intro i j hi hj hij
    have e1 := S.at_g hi
    have e2 := S.at_g hj
    rw [List.getElem?_eq_getElem hi] at e1
    rw [List.getElem?_eq_getElem hj] at e2
    rw [Option.some.inj e1, Option.some.inj e2]
    exact (R.lt hij).1
  · unfold Asc
    rw [List.pairwise_map, List.pairwise_iff_getElem]
    intro i j hi hj hij
    have e1 := S.at_a hi
    have e2 := S.at_a hj
    rw [List.getElem?_eq_getElem hi] at e1
    rw [List.getElem?_eq_getElem hj] at e2
    rw [Option.some.inj e1, Option.some.inj e2]
    exact (R.lt (by omega)).1
theorem turn_pos {u : Int} {g0 a0 g a : List Sti} {t0 m0 t m : Int} {s : Nat → Sti} (G : GoodQ u g0 a0 t0 m0 s) (S : IsSeq g a t m s) : 0 < t ∧ 0 < m ∧ t ≤ 3 * a.length ∧ m ≤ 3 * a.length := by
  have nx := S.per g.length (Nat.le_refl _)
  have lt := G.rise.lt (i := g.length) (j := g.length + a.length) (by have := S.pos; omega)
  have fr := G.far g.length a.length
  rw [nx] at lt fr
  have l1 : (s g.length).1 < (s g.length).1 + t := lt.1
  have l2 : (s g.length).2 < (s g.length).2 + m := lt.2
  have f1 : (s g.length).1 + t ≤ (s g.length).1 + 3 * a.length := fr.1
  have f2 : (s g.length).2 + m ≤ (s g.length).2 + 3 * a.length := fr.2.1
  exact ⟨by omega, by omega, by omega, by omega⟩
theorem log_small {i : Int} (h : i.natAbs < 2 ^ 64) : i.natAbs.log2 < 1920 := by
  by_cases z : i.natAbs = 0
  · rw [z]
    decide
  · have : i.natAbs.log2 < 64 := (Nat.log2_lt z).mpr h
    omega
theorem low_same {a b c d : Nat} {A B : Nat} (hA : 0 < A) (hB : 0 < B) (h1 : a * B = c * A) (h2 : b * B = d * A) : a / Nat.gcd a b = c / Nat.gcd c d ∧ b / Nat.gcd a b = d / Nat.gcd c d := by
  have hg : Nat.gcd a b * B = Nat.gcd c d * A := by rw [← Nat.gcd_mul_right, ← Nat.gcd_mul_right, h1, h2]
  constructor
  · rw [← Nat.mul_div_mul_right a (Nat.gcd a b) hB, ← Nat.mul_div_mul_right c (Nat.gcd c d) hA, h1, hg]
  · rw [← Nat.mul_div_mul_right b (Nat.gcd a b) hB, ← Nat.mul_div_mul_right d (Nat.gcd c d) hA, h2, hg]
theorem low_eq {t m t' m' : Int} {A B : Nat} (hA : 0 < A) (hB : 0 < B) (t0 : 0 < t) (m0 : 0 < m) (t1 : 0 < t') (m1 : 0 < m') (h1 : t * B = t' * A) (h2 : m * B = m' * A) : lowN m' t' = lowN m t ∧ lowD m' t' = lowD m t := by
  obtain ⟨tn, rfl⟩ : ∃ n : Nat, t = n := ⟨t.toNat, by omega⟩
  obtain ⟨mn, rfl⟩ : ∃ n : Nat, m = n := ⟨m.toNat, by omega⟩
  obtain ⟨tn', rfl⟩ : ∃ n : Nat, t' = n := ⟨t'.toNat, by omega⟩
  obtain ⟨mn', rfl⟩ : ∃ n : Nat, m' = n := ⟨m'.toNat, by omega⟩
  have e1 : tn * B = tn' * A := by exact_mod_cast h1
  have e2 : mn * B = mn' * A := by exact_mod_cast h2
  obtain ⟨l1, l2⟩ := low_same hA hB e2 e1
  unfold lowN lowD
  rw [Int.natAbs_natCast, Int.natAbs_natCast, Int.natAbs_natCast, Int.natAbs_natCast]
  exact ⟨by exact_mod_cast l1.symm, by exact_mod_cast l2.symm⟩
theorem made_good {u : Int} {g0 a0 g a : List Sti} {t0 m0 t m : Int} {s : Nat → Sti} {f' : List Stp} {a' : List Sti} {t' m' : Int} (G : GoodQ u g0 a0 t0 m0 s) (S : IsSeq g a t m s) (lg : g.length ≤ 900) (la : a.length ≤ 900) (M : MadeT (g.map up) a t m f' a' t' m') :
    ∃ g', f' = g'.map up ∧ Canon g' a' t' m' s ∧ PartsT f' a' t' m' ∧ TellsT (some u) (g.map up) a t m f' a' t' m' := by
  have l0 := S.pos
  have ha : a ≠ [] := fun z => by rw [z] at l0; exact absurd l0 (by decide)
  obtain ⟨g', ef, A⟩ := made_canon ha S M
  have lens : f'.length ≤ 900 ∧ a'.length ≤ 900 := by
    obtain ⟨p, b, L, Sh, e1, e2, _⟩ := M
    have h1 := Sh.le
    rw [List.length_map] at h1
    have h2 := L.le
    constructor
    · rw [e1, List.length_take]
      omega
    · have := congrArg List.length e2
      rw [List.length_map, List.length_take] at this
      omega
  subst ef
  have S' := A.seq
  have l0' := S'.pos
  have ha' : a' ≠ [] := fun z => by rw [z] at l0'; exact absurd l0' (by decide)
  obtain ⟨tp, mp, t3, m3⟩ := turn_pos G S
  obtain ⟨tp', mp', t3', m3'⟩ := turn_pos G S'
  have R := G.rise
  obtain ⟨as1, as2⟩ := asc_parts S R
  obtain ⟨bs1, bs2⟩ := asc_parts S' R
  refine ⟨g', rfl, A, ⟨by omega, by omega, bs1, bs2, fun _ => tp', by omega, by omega, by omega⟩, ⟨fun time v hb tv => ?_, ⟨fun z => absurd z ha, fun z => absurd z ha'⟩, fun _ => ⟨tp, ?_⟩, A.law⟩⟩
  · have T1 := told_tell S' tp' tv
    have T2 := told_tell S tp (atL_told (u := some u) (time := time) (m := m) as1 as2 (fun _ => tp))
    refine ⟨T1.fun R T2, fun i hi => log_small ?_⟩
    have b15 : (10 : Int) ^ 15 = 1000000000000000 := by decide
    obtain ⟨_, hb2⟩ := hb
    rw [b15] at hb2
    have p64 : (2 : Nat) ^ 64 = 18446744073709551616 := by decide
    rw [p64]
    have u0 := G.u0
    have u3 := G.u3
    rcases T1 with ⟨_, rfl⟩ | ⟨n, h1, _, rfl⟩
    · cases hi
      omega
    · cases hi
      have fr := G.far 0 n
      rw [Nat.zero_add] at fr
      have lo := G.lo
      have un3 := G.un3
      have pos := G.cnt n
      omega
  · have k1 := S.perAt.iter (n := g.length + g'.length) (by omega) a'.length
    have k2 := S'.perAt.iter (n := g.length + g'.length) (by omega) a.length
    rw [Nat.mul_comm a'.length a.length] at k1
    rw [k1] at k2
    generalize s (g.length + g'.length) = z at k2
    have e1 : z.1 + (a'.length : Int) * t = z.1 + (a.length : Int) * t' := congrArg Prod.fst k2
    have e2 : z.2 + (a'.length : Int) * m = z.2 + (a.length : Int) * m' := congrArg Prod.snd k2
    exact low_eq (A := a.length) (B := a'.length) l0 l0' tp mp tp' mp' (by rw [Int.mul_comm t, Int.mul_comm t']; omega) (by rw [Int.mul_comm m, Int.mul_comm m']; omega)
end My

namespace My
open PySem PySem.Spec PyProof.Rows L2
/-! what is told alike in the window is one sequence -/
section
variable {u u2 : Int} {g a g2 a2 : List Sti} {t m t2 m2 : Int} {s s2 : Nat → Sti}
theorem tell_at (R : Rise s) {u : Option Int} (n : Nat) : Tell u s (s n).1 (some (s n).2) := Or.inr ⟨n, Int.le_refl _, (R n).1, rfl⟩
/-- one step is found where the other's is -/
theorem step_eq_of (G : GoodQ u g a t m s) (G2 : GoodQ u g2 a2 t2 m2 s2) (W : ∀ time v, -8 ≤ time → time < 80 → (Tell (some u) s time v ↔ Tell (some u) s2 time v)) {n : Nat} (hn : n ≤ 12) (ih : ∀ k, k < n → s k = s2 k) : ¬ (s n).1 < (s2 n).1 := by
  intro lt
  have fr := G.far 0 n
  rw [Nat.zero_add] at fr
  have lo := G.lo
  have hi := G.hi
  have T := (W (s n).1 _ (by omega) (by omega)).mp (tell_at G.rise n)
  cases n with
  | zero =>
    have T2 : Tell (some u) s2 (s 0).1 (some u) := Or.inl ⟨lt, rfl⟩
    have := T.fun G2.rise T2
    have un := G.un
    have e : (s 0).2 = u := Option.some.inj this
    omega
  | succ n =>
    have e0 := ih n (Nat.lt_succ_self n)
    have T2 : Tell (some u) s2 (s (n + 1)).1 (some (s2 n).2) := Or.inr ⟨n, by rw [← e0]; exact Int.le_of_lt (G.rise n).1, lt, rfl⟩
    have := Option.some.inj (T.fun G2.rise T2)
    rw [← e0] at this
    have := (G.rise n).2
    omega
theorem steps_eq (G : GoodQ u g a t m s) (G2 : GoodQ u g2 a2 t2 m2 s2) (W : ∀ time v, -8 ≤ time → time < 80 → (Tell (some u) s time v ↔ Tell (some u) s2 time v)) : ∀ n, n ≤ 12 → s n = s2 n := by
  intro n
  induction n using Nat.strongRecOn with
  | _ n ih =>
    intro hn
    have h1 := step_eq_of G G2 W hn (fun k hk => ih k hk (by omega))
    have h2 := step_eq_of G2 G (fun time v p q => (W time v p q).symm) hn (fun k hk => (ih k hk (by omega)).symm)
    have et : (s n).1 = (s2 n).1 := by omega
    have fr := G.far 0 n
    rw [Nat.zero_add] at fr
    have lo := G.lo
    have hi := G.hi
    have T := (W (s n).1 _ (by omega) (by omega)).mp (tell_at G.rise n)
    have T2 : Tell (some u) s2 (s n).1 (some (s2 n).2) := by
      rw [et]
      exact tell_at G2.rise n
    exact Prod.ext et (Option.some.inj (T.fun G2.rise T2))
/-- two sequences that agree so far agree for ever -/
theorem seq_eq (S : IsSeq g a t m s) (S2 : IsSeq g2 a2 t2 m2 s2) (lg : g.length ≤ 3) (la : a.length ≤ 3) (lg2 : g2.length ≤ 3) (la2 : a2.length ≤ 3) (h : ∀ n, n ≤ 12 → s n = s2 n) : ∀ n, s n = s2 n := by
  have p1 := S.pos
  have p2 := S2.pos
  have hpq : a.length * a2.length ≤ 9 := Nat.le_trans (Nat.mul_le_mul la la2) (by decide)
  have hpos : 0 < a.length * a2.length := Nat.mul_pos p1 p2
  have P1 : ∀ n, 3 ≤ n → s (n + a.length * a2.length) = mv ((a2.length : Int) * t) ((a2.length : Int) * m) (s n) := fun n hn => by
    rw [Nat.mul_comm]
    exact S.perAt.iter (by omega) a2.length
  have P2 : ∀ n, 3 ≤ n → s2 (n + a.length * a2.length) = mv ((a.length : Int) * t2) ((a.length : Int) * m2) (s2 n) := fun n hn => S2.perAt.iter (by omega) a.length
  generalize a.length * a2.length = L at *
  have e3 := P1 3 (Nat.le_refl _)
  rw [h _ (by omega), P2 3 (Nat.le_refl _), h 3 (by decide)] at e3
  have d1 : (a2.length : Int) * t = (a.length : Int) * t2 := by
    have : (s2 3).1 + (a.length : Int) * t2 = (s2 3).1 + (a2.length : Int) * t := congrArg Prod.fst e3
    omega
  have d2 : (a2.length : Int) * m = (a.length : Int) * m2 := by
    have : (s2 3).2 + (a.length : Int) * m2 = (s2 3).2 + (a2.length : Int) * m := congrArg Prod.snd e3
    omega
  rw [d1, d2] at P1
  intro n
  induction n using Nat.strongRecOn with
  | _ n ih =>
    by_cases c : n ≤ 12
    · exact h n c
    · obtain ⟨k, rfl⟩ : ∃ k, n = k + L := ⟨n - L, by omega⟩
      rw [P1 k (by omega), P2 k (by omega), ih k (by omega)]
end
/-- two drawn tallies with turns: one where they tell alike in the window -/
theorem turns_eq {u u2 : Int} {g a g2 a2 : List Sti} {t m t2 m2 : Int} {s s2 : Nat → Sti} (G : GoodQ u g a t m s) (G2 : GoodQ u2 g2 a2 t2 m2 s2) (lg : g.length ≤ 3) (la : a.length ≤ 3) (lg2 : g2.length ≤ 3) (la2 : a2.length ≤ 3)
    (W : ∀ time, -8 ≤ time → time < 80 → atL (some u) (g.map up) a t m time = atL (some u2) (g2.map up) a2 t2 m2 time) : u = u2 ∧ ∀ n, s n = s2 n := by
  obtain ⟨as1, as2⟩ := asc_parts G.seq G.rise
  obtain ⟨bs1, bs2⟩ := asc_parts G2.seq G2.rise
  have tp := (turn_pos G G.seq).1
  have tp2 := (turn_pos G2 G2.seq).1
  have T : ∀ time, Tell (some u) s time (atL (some u) (g.map up) a t m time) := fun time => told_tell G.seq tp (atL_told as1 as2 fun _ => tp)
  have T2 : ∀ time, Tell (some u2) s2 time (atL (some u2) (g2.map up) a2 t2 m2 time) := fun time => told_tell G2.seq tp2 (atL_told bs1 bs2 fun _ => tp2)
  have eu : u = u2 := by
    have h1 := (T (-8)).fun G.rise (Or.inl ⟨by have := G.lo; omega, rfl⟩)
    have h2 := (T2 (-8)).fun G2.rise (Or.inl ⟨by have := G2.lo; omega, rfl⟩)
    rw [W (-8) (by decide) (by decide), h2] at h1
    exact (Option.some.inj h1).symm
  subst eu
  refine ⟨rfl, seq_eq G.seq G2.seq lg la lg2 la2 (steps_eq G G2 fun time v p q => ⟨fun h => ?_, fun h => ?_⟩)⟩
  · rw [h.fun G.rise (T time), W time p q]
    exact T2 time
  · rw [h.fun G2.rise (T2 time), ← W time p q]
    exact T time
end My

namespace My
open PySem PySem.Spec PyProof.Rows L2
/-! equal just where all times are -/
theorem made_nil {f : List Stp} {f' : List Stp} {a' : List Sti} {t' m' : Int} (M : MadeT f [] 0 0 f' a' t' m') : f' = f ∧ a' = [] ∧ t' = 0 ∧ m' = 0 := by
  obtain ⟨p, b, L, Sh, e1, e2, rfl, rfl⟩ := M
  have p0 : p = 0 := Nat.le_zero.mp L.le
  subst p0
  have hb := Sh.nil rfl
  have ew : f ++ (([] : List Sti).take 0).map up = f := List.append_nil f
  rw [ew] at e1 e2
  refine ⟨by rw [e1, hb, List.take_length], ?_, by simp, by simp⟩
  rw [List.take_zero] at e2
  exact List.map_eq_nil_iff.mp e2
/-- steps that rise from a time and a count on, the last one endless -/
def ChainE : Int → Int → List Stp → Prop
  | _, _, [] => False
  | lo, _, [y] => lo < y.1 ∧ y.1 < 80 ∧ y.2 = none
  | lo, c, y :: z :: r => lo < y.1 ∧ y.1 < 80 ∧ ∃ c', y.2 = some c' ∧ c < c' ∧ ChainE y.1 c' (z :: r)
theorem chainE_head : ∀ {lo c : Int} {y : Stp} {r : List Stp}, ChainE lo c (y :: r) → lo < y.1 ∧ y.1 < 80 ∧ ((y.2 = none ∧ r = []) ∨ ∃ c', y.2 = some c' ∧ c < c' ∧ ChainE y.1 c' r)
  | lo, c, y, [], h => ⟨h.1, h.2.1, Or.inl ⟨h.2.2, rfl⟩⟩
  | lo, c, y, z :: r, h => ⟨h.1, h.2.1, Or.inr h.2.2⟩
theorem fold_low {time : Int} (v : Option Int) : ∀ {f : List Stp} {lo c : Int}, ChainE lo c f → time ≤ lo → f.foldl (firstAt time) v = v
  | [], _, _, h, _ => h.elim
  | y :: r, lo, c, h, ht => by
    obtain ⟨h1, _, h3⟩ := chainE_head h
    rw [List.foldl_cons, firstAt, if_neg (by omega)]
    rcases h3 with ⟨_, rfl⟩ | ⟨c', _, _, hr⟩
    · rfl
    · exact fold_low v hr (by omega)
theorem fold_at {lo c : Int} {y : Stp} {r : List Stp} (h : ChainE lo c (y :: r)) (v : Option Int) : (y :: r).foldl (firstAt y.1) v = y.2 := by
  obtain ⟨_, _, h3⟩ := chainE_head h
  rw [List.foldl_cons, firstAt, if_pos (Int.le_refl _)]
  rcases h3 with ⟨_, rfl⟩ | ⟨c', _, _, hr⟩
  · rfl
  · exact fold_low _ hr (Int.le_refl _)
theorem ends_eq : ∀ {f f2 : List Stp} {lo c : Int}, ChainE lo c f → ChainE lo c f2 → (∀ time, lo ≤ time → time < 80 → f.foldl (firstAt time) (some c) = f2.foldl (firstAt time) (some c)) → f = f2
  | [], _, _, _, h, _, _ => h.elim
  | _ :: _, [], _, _, _, h, _ => h.elim
  | y :: r, y2 :: r2, lo, c, h, h2, W => by
    have low : ∀ {z : Stp} {q : List Stp} {time : Int}, ChainE lo c (z :: q) → time < z.1 → (z :: q).foldl (firstAt time) (some c) = some c := fun {z q time} hz ht => by
      obtain ⟨_, _, h3⟩ := chainE_head hz
      rw [List.foldl_cons, firstAt, if_neg (by omega)]
      rcases h3 with ⟨_, rfl⟩ | ⟨c', _, _, hr⟩
      · rfl
      · exact fold_low _ hr (by omega)
    have ne : ∀ {z : Stp} {q : List Stp}, ChainE lo c (z :: q) → z.2 ≠ some c := fun {z q} hz e => by
      obtain ⟨_, _, h3⟩ := chainE_head hz
      rcases h3 with ⟨e2, _⟩ | ⟨c', e2, lt, _⟩
      · rw [e2] at e
        cases e
      · rw [e2] at e
        have := Option.some.inj e
        omega
    obtain ⟨a1, a2, a3⟩ := chainE_head h
    obtain ⟨b1, b2, b3⟩ := chainE_head h2
    have et : y.1 = y2.1 := by
      rcases Int.lt_trichotomy y.1 y2.1 with q | q | q
      · have := W y.1 (by omega) a2
        rw [fold_at h, low h2 q] at this
        exact absurd this (ne h)
      · exact q
      · have := W y2.1 (by omega) b2
        rw [fold_at h2, low h q] at this
        exact absurd this.symm (ne h2)
    have ec : y.2 = y2.2 := by
      have := W y.1 (by omega) a2
      rw [fold_at h, et, fold_at h2] at this
      exact this
    have ey : y = y2 := Prod.ext et ec
    subst ey
    rcases a3 with ⟨e1, rfl⟩ | ⟨c', e1, _, hr⟩
    · rcases b3 with ⟨_, rfl⟩ | ⟨c2, e2, _, _⟩
      · rfl
      · rw [e1] at e2
        cases e2
    · rcases b3 with ⟨e2, _⟩ | ⟨c2, e2, _, hr2⟩
      · rw [e1] at e2
        cases e2
      · have : c' = c2 := by
          rw [e1] at e2
          exact Option.some.inj e2
        subst this
        rw [ends_eq hr hr2 fun time p q => ?_]
        have := W time (by omega) q
        rw [List.foldl_cons, List.foldl_cons, firstAt, if_pos p, e1] at this
        exact this
theorem chainE_of : ∀ {x : Sti} {ss : List Sti} {d : Int}, ChainS x ss → 1 ≤ d → d ≤ 3 → x.1 + 3 * ss.length + 3 < 80 → ChainE x.1 x.2 (ss.map up ++ [((lastS x ss).1 + d, none)])
  | x, [], d, _, h1, h2, h3 => by
    have h3 : x.1 + 3 * (0 : Nat) + 3 < 80 := h3
    exact ⟨by show x.1 < x.1 + d; omega, by show x.1 + d < 80; omega, rfl⟩
  | x, y :: r, d, hc, h1, h2, h3 => by
    have e : lastS x (y :: r) = lastS y r := by
      unfold lastS
      rw [List.getLast?_cons]
      rfl
    rw [e]
    obtain ⟨⟨s1, s2, s3, s4⟩, hr⟩ := hc
    rw [List.length_cons] at h3
    have ih := chainE_of (x := y) hr h1 h2 (by omega)
    have key : ∀ {q : List Stp}, ChainE y.1 y.2 q → ChainE x.1 x.2 (up y :: q) := fun {q} hq => by
      cases q with
      | nil => exact hq.elim
      | cons z q => exact ⟨s1, by show y.1 < 80; omega, y.2, rfl, s3, hq⟩
    exact key ih
theorem drawn_len {u : Option Int} {f : List Stp} {a : List Sti} {t m : Int} (D : DrawnR u f a t m) : f.length ≤ 4 ∧ a.length ≤ 3 := by
  cases D with
  | none => exact ⟨by decide, by decide⟩
  | ends u t0 d ss hu ht hc hl hd => exact ⟨by rw [List.length_append, List.length_map, List.length_singleton]; omega, by decide⟩
  | turns u t0 dt dm ss as x y hu ht hc hl ha hla hx hy hdt hdm => exact ⟨by rw [List.length_map]; omega, hla⟩
/-- the parts of made forms are alike just where what the drawn ones tell is, in the window -/
theorem crit {u u2 : Option Int} {f f2 f' f2' : List Stp} {a a2 a' a2' : List Sti} {t m t2 m2 t' m' t2' m2' : Int} (D : DrawnR u f a t m) (M : MadeT f a t m f' a' t' m') (D2 : DrawnR u2 f2 a2 t2 m2) (M2 : MadeT f2 a2 t2 m2 f2' a2' t2' m2')
    (W : ∀ time, -8 ≤ time → time < 80 → atL u f a t m time = atL u2 f2 a2 t2 m2 time) : u = u2 ∧ f' = f2' ∧ a' = a2' ∧ t' = t2' ∧ m' = m2' := by
  have endAt : ∀ {u t0 d : Int} {ss : List Sti}, 0 ≤ u ∧ u ≤ 3 → -4 ≤ t0 ∧ t0 ≤ 3 → ChainS (t0, u) ss → ss.length ≤ 3 → 1 ≤ d ∧ d ≤ 3 → ChainE t0 u (ss.map up ++ [((lastS (t0, u) ss).1 + d, none)]) := fun {u t0 d ss} hu ht hc hl hd =>
    chainE_of (x := (t0, u)) hc hd.1 hd.2 (by show t0 + 3 * (ss.length : Int) + 3 < 80; omega)
  have endLate : ∀ {u t0 d : Int} {ss : List Sti}, 0 ≤ u ∧ u ≤ 3 → -4 ≤ t0 ∧ t0 ≤ 3 → ChainS (t0, u) ss → ss.length ≤ 3 → 1 ≤ d ∧ d ≤ 3 → atL (some u) (ss.map up ++ [((lastS (t0, u) ss).1 + d, none)]) [] 0 0 79 = none := fun {u t0 d ss} hu ht hc hl hd => by
    show (ss.map up ++ [((lastS (t0, u) ss).1 + d, none)]).foldl (firstAt 79) (some u) = none
    have hE := endAt hu ht hc hl hd
    have last : ∀ {q : List Stp} {y : Stp} {lo c : Int}, ChainE lo c (q ++ [y]) → y.1 < 80 := by
      intro q
      induction q with
      | nil =>
        intro y lo c h
        exact h.2.1
      | cons z q ih =>
        intro y lo c h
        obtain ⟨_, _, h3⟩ := chainE_head h
        rcases h3 with ⟨_, e⟩ | ⟨c', _, _, hr⟩
        · exact absurd e (by simp)
        · exact ih hr
    have := last hE
    rw [List.foldl_append]
    show firstAt 79 _ ((lastS (t0, u) ss).1 + d, none) = none
    rw [firstAt, if_pos (by show (lastS (t0, u) ss).1 + d ≤ 79; have h : (lastS (t0, u) ss).1 + d < 80 := this; omega)]
  have early : ∀ {u t0 d : Int} {ss : List Sti}, 0 ≤ u ∧ u ≤ 3 → -4 ≤ t0 ∧ t0 ≤ 3 → ChainS (t0, u) ss → ss.length ≤ 3 → 1 ≤ d ∧ d ≤ 3 → ∀ time, time ≤ t0 → atL (some u) (ss.map up ++ [((lastS (t0, u) ss).1 + d, none)]) [] 0 0 time = some u := fun {u t0 d ss} hu ht hc hl hd time h =>
    fold_low (some u) (endAt hu ht hc hl hd) h
  have turnTell : ∀ {u t0 dt dm : Int} {ss as : List Sti} {x y : Sti} (hu : 0 ≤ u ∧ u ≤ 3) (ht : -4 ≤ t0 ∧ t0 ≤ 3) (hc : ChainS (t0, u) ss) (ha : ChainS (lastS (t0, u) ss) as) (hx : as.head? = some x) (hy : as.getLast? = some y) (hdt : 1 ≤ dt ∧ dt ≤ 3) (hdm : 1 ≤ dm ∧ dm ≤ 3) (time : Int),
      ∃ v, atL (some u) (ss.map up) as (y.1 - x.1 + dt) (y.2 - x.2 + dm) time = some v := fun {u t0 dt dm ss as x y} hu ht hc ha hx hy hdt hdm time => by
    have G := drawn_good hu ht hc ha hx hy hdt hdm
    obtain ⟨as1, as2⟩ := asc_parts G.seq G.rise
    have tp := (turn_pos G G.seq).1
    have T := told_tell G.seq tp (atL_told (u := some u) (time := time) (m := y.2 - x.2 + dm) as1 as2 fun _ => tp)
    rcases T with ⟨_, e⟩ | ⟨n, _, _, e⟩
    · exact ⟨_, e⟩
    · exact ⟨_, e⟩
  cases D with
  | none =>
    cases D2 with
    | none =>
      obtain ⟨rfl, rfl, rfl, rfl⟩ := made_nil M
      obtain ⟨rfl, rfl, rfl, rfl⟩ := made_nil M2
      exact ⟨rfl, rfl, rfl, rfl, rfl⟩
    | ends u t0 d ss hu ht hc hl hd =>
      have := W (-8) (by decide) (by decide)
      rw [early hu ht hc hl hd (-8) (by omega)] at this
      cases this
    | turns u t0 dt dm ss as x y hu ht hc hl ha hla hx hy hdt hdm =>
      have := W (-8) (by decide) (by decide)
      obtain ⟨v, e⟩ := turnTell hu ht hc ha hx hy hdt hdm (-8)
      rw [e] at this
      cases this
  | ends u t0 d ss hu ht hc hl hd =>
    cases D2 with
    | none =>
      have := W (-8) (by decide) (by decide)
      rw [early hu ht hc hl hd (-8) (by omega)] at this
      cases this
    | ends u2 t02 d2 ss2 hu2 ht2 hc2 hl2 hd2 =>
      obtain ⟨rfl, rfl, rfl, rfl⟩ := made_nil M
      obtain ⟨rfl, rfl, rfl, rfl⟩ := made_nil M2
      have e8 := W (-8) (by decide) (by decide)
      rw [early hu ht hc hl hd (-8) (by omega), early hu2 ht2 hc2 hl2 hd2 (-8) (by omega)] at e8
      have eu : u = u2 := Option.some.inj e8
      subst eu
      have lower : ∀ {lo lo2 c : Int} {f : List Stp}, ChainE lo c f → lo2 ≤ lo → ChainE lo2 c f := fun {lo lo2 c f} h hl => by
        cases f with
        | nil => exact h.elim
        | cons y r =>
          cases r with
          | nil => exact ⟨by have := h.1; omega, h.2⟩
          | cons z r => exact ⟨by have := h.1; omega, h.2⟩
      have := ends_eq (lower (endAt hu ht hc hl hd) (by omega : (-8 : Int) ≤ t0)) (lower (endAt hu2 ht2 hc2 hl2 hd2) (by omega : (-8 : Int) ≤ t02)) (fun time p q => W time p q)
      exact ⟨rfl, this, rfl, rfl, rfl⟩
    | turns u2 t02 dt dm ss2 as x y hu2 ht2 hc2 hl2 ha hla hx hy hdt hdm =>
      have := W 79 (by decide) (by decide)
      obtain ⟨v, e⟩ := turnTell hu2 ht2 hc2 ha hx hy hdt hdm 79
      rw [endLate hu ht hc hl hd, e] at this
      cases this
  | turns u t0 dt dm ss as x y hu ht hc hl ha hla hx hy hdt hdm =>
    cases D2 with
    | none =>
      have := W (-8) (by decide) (by decide)
      obtain ⟨v, e⟩ := turnTell hu ht hc ha hx hy hdt hdm (-8)
      rw [e] at this
      cases this
    | ends u2 t02 d2 ss2 hu2 ht2 hc2 hl2 hd2 =>
      have := W 79 (by decide) (by decide)
      obtain ⟨v, e⟩ := turnTell hu ht hc ha hx hy hdt hdm 79
      rw [endLate hu2 ht2 hc2 hl2 hd2, e] at this
      cases this
    | turns u2 t02 dt2 dm2 ss2 as2 x2 y2 hu2 ht2 hc2 hl2 ha2 hla2 hx2 hy2 hdt2 hdm2 =>
      have G := drawn_good hu ht hc ha hx hy hdt hdm
      have G2 := drawn_good hu2 ht2 hc2 ha2 hx2 hy2 hdt2 hdm2
      obtain ⟨eu, es⟩ := turns_eq G G2 hl hla hl2 hla2 W
      obtain ⟨g', rfl, A, _⟩ := made_good G G.seq (by omega) (by omega) M
      obtain ⟨g2', rfl, B, _⟩ := made_good G2 G2.seq (by omega) (by omega) M2
      have es' : sq ss a (y.1 - x.1 + dt) (y.2 - x.2 + dm) = sq ss2 a2 (y2.1 - x2.1 + dt2) (y2.2 - x2.2 + dm2) := funext es
      rw [← es'] at B
      obtain ⟨h1, h2, h3, h4⟩ := A.uniq B
      exact ⟨by rw [eu], by rw [h1], h2, h3, h4⟩
end My

namespace My
open PySem PySem.Spec PyProof.Rows L2
/-! drawn tallies, all of it -/
theorem LastB.uniq {ds : List Stp} {t : Int} {n k : Nat} (h : LastB ds t n) (h' : LastB ds t k) : n = k := by
  have one : ∀ {n k : Nat}, LastB ds t n → LastB ds t k → ¬ n < k := fun {n k} a b lt => by
    have hl : n < ds.length := by have := b.le; omega
    have e := List.getElem?_eq_getElem hl
    have h1 := a.hi n _ (Nat.le_refl _) e
    have h2 := b.lo n _ lt e
    omega
  have h1 := one h h'
  have h2 := one h' h
  omega
theorem told_fun0 {u : Option Int} {f : List Stp} {t m time : Int} {v v' : Option Int} (h : ToldT u f [] t m time v) (h' : ToldT u f [] t m time v') : v = v' := by
  cases h with
  | rep x y n hx => cases hx
  | none _ e =>
    cases h' with
    | rep x y n hx => cases hx
    | none _ _ => rfl
    | some y n _ e2 _ =>
      have := e.uniq e2
      omega
  | some y n _ e g =>
    cases h' with
    | rep x y n hx => cases hx
    | none _ e2 =>
      have := e.uniq e2
      omega
    | some y2 n2 _ e2 g2 =>
      have := e.uniq e2
      have : n = n2 := by omega
      subst this
      rw [g] at g2
      rw [Option.some.inj g2]
theorem chain_bound : ∀ {x : Sti} {l : List Sti}, ChainS x l → ∀ y ∈ l, x.1 < y.1 ∧ y.1 ≤ x.1 + 3 * l.length ∧ x.2 < y.2 ∧ y.2 ≤ x.2 + 3 * l.length
  | x, [], _, y, h => nomatch h
  | x, z :: r, hc, y, h => by
    obtain ⟨⟨h1, h2, h3, h4⟩, hr⟩ := hc
    rw [List.length_cons]
    rcases List.mem_cons.mp h with rfl | h
    · exact ⟨h1, by omega, h3, by omega⟩
    · obtain ⟨a1, a2, a3, a4⟩ := chain_bound hr y h
      exact ⟨by omega, by omega, by omega, by omega⟩
theorem chain_asc : ∀ {x : Sti} {l : List Sti}, ChainS x l → l.Pairwise fun p q => p.1 < q.1
  | x, [], _ => .nil
  | x, z :: r, hc => .cons (fun y hy => (chain_bound hc.2 y hy).1) (chain_asc hc.2)
theorem last_le {x : Sti} {l : List Sti} (hc : ChainS x l) : ∀ y ∈ l, y.1 ≤ (lastS x l).1 := by
  intro y hy
  rcases List.eq_nil_or_concat l with e | ⟨l', z, e⟩
  · rw [e] at hy
    cases hy
  · rw [List.concat_eq_append] at e
    subst e
    rw [last_snoc]
    have hp := chain_asc hc
    rw [List.pairwise_append] at hp
    rcases List.mem_append.mp hy with h | h
    · exact Int.le_of_lt (hp.2.2 y h z (List.mem_singleton.mpr rfl))
    · rw [List.mem_singleton.mp h]
      exact Int.le_refl _
theorem ends_asc {x : Sti} {ss : List Sti} {d : Int} (hc : ChainS x ss) (hd : 1 ≤ d) : Asc (ss.map up ++ [((lastS x ss).1 + d, none)]) := by
  unfold Asc
  rw [List.pairwise_append]
  refine ⟨?_, List.pairwise_singleton _ _, fun y hy z hz => ?_⟩
  · rw [List.pairwise_map]
    exact chain_asc hc
  · rw [List.mem_singleton] at hz
    subst hz
    obtain ⟨w, hw, rfl⟩ := List.mem_map.mp hy
    have := last_le hc w hw
    show w.1 < (lastS x ss).1 + d
    omega
theorem rise_end : ∀ {x : Sti} {ss : List Sti} {d : Int} (p : Option Int × Option Int), ChainS x ss → 1 ≤ d → p.2 = some x.2 → (p.1 = none ∨ p.1 = some x.1) → riseF p (ss.map up ++ [((lastS x ss).1 + d, none)]) = true
  | x, [], d, p, _, hd, h2, h1 => by
    show (upC p.2 none && (upT p.1 (x.1 + d) && true)) = true
    rw [h2]
    rcases h1 with h1 | h1
    · rw [h1]
      rfl
    · rw [h1]
      show (true && (decide (x.1 < x.1 + d) && true)) = true
      rw [decide_eq_true (by omega)]
      rfl
  | x, y :: r, d, p, hc, hd, h2, h1 => by
    have e : lastS x (y :: r) = lastS y r := by
      unfold lastS
      rw [List.getLast?_cons]
      rfl
    obtain ⟨⟨s1, _, s3, _⟩, hr⟩ := hc
    rw [e]
    show (upC p.2 (some y.2) && (upT p.1 y.1 && riseF (prO (up y)) (r.map up ++ [((lastS y r).1 + d, none)]))) = true
    rw [rise_end (prO (up y)) hr hd rfl (Or.inr rfl), h2, show upC (some x.2) (some y.2) = true from decide_eq_true s3]
    rcases h1 with h1 | h1
    · rw [h1]
      rfl
    · rw [h1, show upT (some x.1) y.1 = true from decide_eq_true s1]
      rfl
theorem word_nil {u : PyData} {f : List Stp} {d1 d2 : PyData} (hu : (isNonD u || isNumD u) = true) (q1 : isSeqD d1 = true) (i1 : itemsD d1 = f.map stD) (q2 : isSeqD d2 = true) (i2 : itemsD d2 = []) (af : (f.map stD).all isFD = true) (hr : riseF (none, cO u) f = true) (hl : ((f.getLast?.map prO).getD (none, cO u)).2 = none) :
    wordT u d1 d2 (.int 0) (.int 0) = none := by
  unfold wordT
  rw [if_pos hu, q1, i1, af, if_pos (show (true && true) = true from rfl), stOs, if_pos hr]
  unfold wordA
  rw [q2, i2, if_pos (show (true && ([] : List PyData).all isStepD) = true from rfl)]
  unfold wordR
  rw [hl]
  rfl
/-- what is known of a drawn tally -/
structure DrawnK (u : Option Int) (f : List Stp) (a : List Sti) (t m : Int) : Prop where
  lf : f.length ≤ 4
  la : a.length ≤ 3
  t0 : 0 ≤ t
  t1 : t < 1000
  m0 : 0 ≤ m
  m1 : m < 1000
  word : ∀ d1 d2, isSeqD d1 = true → itemsD d1 = f.map stD → isSeqD d2 = true → itemsD d2 = a.map siD → wordT (cD u) d1 d2 (.int t) (.int m) = none
  made : ∀ f' a' t' m', MadeT f a t m f' a' t' m' → PartsT f' a' t' m' ∧ TellsT u f a t m f' a' t' m'
  other : ∀ f2 a2 t2 m2, Otherw f a t m f2 a2 t2 m2 → (f2.length ≤ 900 ∧ a2.length ≤ 900 ∧ wordT (cD u) (.list (f2.map stD)) (.list (a2.map siD)) (.int t2) (.int m2) = none) ∧ ∀ f' a' t' m' f3 a3 t3 m3, MadeT f a t m f' a' t' m' → MadeT f2 a2 t2 m2 f3 a3 t3 m3 → f3 = f' ∧ a3 = a' ∧ t3 = t' ∧ m3 = m'
theorem made_fun0 {f f' f3 : List Stp} {a' a3 : List Sti} {t' m' t3 m3 : Int} (M : MadeT f [] 0 0 f' a' t' m') (M3 : MadeT f [] 0 0 f3 a3 t3 m3) : f3 = f' ∧ a3 = a' ∧ t3 = t' ∧ m3 = m' := by
  obtain ⟨rfl, rfl, rfl, rfl⟩ := made_nil M
  obtain ⟨rfl, rfl, rfl, rfl⟩ := made_nil M3
  exact ⟨rfl, rfl, rfl, rfl⟩
theorem tells_nil {u : Option Int} {f : List Stp} (hs : Asc f) (hb : ∀ i, (u = some i ∨ ∃ y ∈ f, y.2 = some i) → i.natAbs < 2 ^ 64) (hl : f.length ≤ 4) : ∀ f' a' t' m', MadeT f [] 0 0 f' a' t' m' → PartsT f' a' t' m' ∧ TellsT u f [] 0 0 f' a' t' m' := by
  intro f' a' t' m' M
  obtain ⟨rfl, rfl, rfl, rfl⟩ := made_nil M
  refine ⟨⟨by omega, by decide, hs, .nil, fun h => absurd rfl h, by decide, by decide, by decide⟩, ⟨fun time v _ tv => ⟨told_fun0 tv (atL_told hs .nil fun h => absurd rfl h), fun i hi => log_small (hb i ?_)⟩, Iff.rfl, fun h => absurd rfl h, canonL_nil _⟩⟩
  cases tv with
  | rep x y n hx => cases hx
  | none _ _ => exact Or.inl hi
  | some y n _ _ g => exact Or.inr ⟨y, List.mem_of_getElem? g, hi⟩
theorem drawn_known {u : Option Int} {f : List Stp} {a : List Sti} {t m : Int} (D : DrawnR u f a t m) : DrawnK u f a t m := by
  obtain ⟨lf, la⟩ := drawn_len D
  have oth0 : ∀ {u : Option Int} {f : List Stp}, f.length ≤ 4 → wordT (cD u) (.list (f.map stD)) (.list (([] : List Sti).map siD)) (.int 0) (.int 0) = none → ∀ f2 a2 t2 m2, Otherw f [] 0 0 f2 a2 t2 m2 → (f2.length ≤ 900 ∧ a2.length ≤ 900 ∧ wordT (cD u) (.list (f2.map stD)) (.list (a2.map siD)) (.int t2) (.int m2) = none) ∧
      ∀ f' a' t' m' f3 a3 t3 m3, MadeT f [] 0 0 f' a' t' m' → MadeT f2 a2 t2 m2 f3 a3 t3 m3 → f3 = f' ∧ a3 = a' ∧ t3 = t' ∧ m3 = m' := fun {u f} lf hw f2 a2 t2 m2 O => by
    rcases O with ⟨_, rfl, rfl, rfl, rfl⟩ | ⟨h, _⟩
    · exact ⟨⟨by omega, by decide, hw⟩, fun f' a' t' m' f3 a3 t3 m3 M M3 => made_fun0 M M3⟩
    · exact absurd rfl h
  cases D with
  | none =>
    have w : ∀ d1 d2, isSeqD d1 = true → itemsD d1 = ([] : List Stp).map stD → isSeqD d2 = true → itemsD d2 = ([] : List Sti).map siD → wordT (cD none) d1 d2 (.int 0) (.int 0) = none := fun d1 d2 q1 i1 q2 i2 => word_nil (f := []) rfl q1 i1 q2 i2 rfl rfl rfl
    exact ⟨lf, la, by decide, by decide, by decide, by decide, w, tells_nil .nil (fun i h => h.elim (fun q => nomatch q) (fun ⟨y, hy, _⟩ => nomatch hy)) (by decide), oth0 (by decide) (w _ _ rfl rfl rfl rfl)⟩
  | ends u t0 d ss hu ht hc hl hd =>
    have w : ∀ d1 d2, isSeqD d1 = true → itemsD d1 = (ss.map up ++ [((lastS (t0, u) ss).1 + d, none)]).map stD → isSeqD d2 = true → itemsD d2 = ([] : List Sti).map siD → wordT (cD (some u)) d1 d2 (.int 0) (.int 0) = none := fun d1 d2 q1 i1 q2 i2 => by
      refine word_nil (f := ss.map up ++ [((lastS (t0, u) ss).1 + d, none)]) ?_ q1 i1 q2 i2 ?_ ?_ ?_
      · show (false || decide (0 ≤ u)) = true
        rw [decide_eq_true hu.1]
        rfl
      · rw [List.map_append, List.all_append, (all_fd (l := ss) (fun x hx => by have := (chain_bound hc x hx).2.2.1; have h : u < x.2 := this; omega)).2]
        rfl
      · exact rise_end (x := (t0, u)) _ hc hd.1 rfl (Or.inl rfl)
      · rw [List.getLast?_concat]
        rfl
    refine ⟨lf, la, by decide, by decide, by decide, by decide, w, tells_nil (ends_asc hc hd.1) (fun i h => ?_) lf, oth0 lf (w _ _ rfl rfl rfl rfl)⟩
    have p64 : (2 : Nat) ^ 64 = 18446744073709551616 := by decide
    rw [p64]
    rcases h with h | ⟨y, hy, e⟩
    · cases h
      omega
    · rcases List.mem_append.mp hy with q | q
      · obtain ⟨z, hz, rfl⟩ := List.mem_map.mp q
        cases e
        have := (chain_bound hc z hz).2.2
        have h1 : u < z.2 := this.1
        have h2 : z.2 ≤ u + 3 * ss.length := this.2
        omega
      · rw [List.mem_singleton] at q
        rw [q] at e
        cases e
  | turns u t0 dt dm ss as x y hu ht hc hl ha hla hx hy hdt hdm =>
    have G := drawn_good hu ht hc ha hx hy hdt hdm
    obtain ⟨tp, mp, t3, m3⟩ := turn_pos G G.seq
    have hne : a ≠ [] := fun z => by rw [z] at hx; cases hx
    refine ⟨lf, la, by omega, by omega, by omega, by omega, fun d1 d2 q1 i1 q2 i2 => right_word G G.seq q1 i1 q2 i2, fun f' a' t' m' M => ?_, fun f2 a2 t2 m2 O => ?_⟩
    · obtain ⟨g', _, _, h1, h2⟩ := made_good G G.seq (by omega) (by omega) M
      exact ⟨h1, h2⟩
    · obtain ⟨g2, e2, S2⟩ := other_seq G.seq O
      have lens : f2.length ≤ 900 ∧ a2.length ≤ 900 := by
        rcases O with ⟨h, _⟩ | ⟨_, n, k, hn, _, hk, rfl, rfl, _⟩
        · exact absurd h hne
        · obtain ⟨h1, h2⟩ := rolls_len (y.1 - x.1 + dt) (y.2 - x.2 + dm) (ss.map up, a) n
          have h2 : _ ≤ (ss.map up).length + n := h2
          have h1 : _ = a.length := h1
          rw [List.length_map] at h2
          refine ⟨by omega, ?_⟩
          rw [widen_len, h1]
          exact Nat.le_trans (Nat.mul_le_mul hk hla) (by decide)
      subst e2
      refine ⟨⟨lens.1, lens.2, right_word G S2 rfl rfl rfl rfl⟩, fun f' a' t' m' f3 a3 t3 m3 M M3 => ?_⟩
      obtain ⟨g', rfl, A, _⟩ := made_good G G.seq (by omega) (by omega) M
      obtain ⟨g3, rfl, B, _⟩ := made_good G S2 (by have := lens.1; rw [List.length_map] at this; exact this) lens.2 M3
      obtain ⟨h1, h2, h3, h4⟩ := B.uniq A
      exact ⟨by rw [h1], h2, h3, h4⟩
/-- alike in their parts: told alike at all times -/
theorem crit_back {u : Option Int} {f f2 f' : List Stp} {a a2 a' : List Sti} {t m t2 m2 t' m' : Int} (D : DrawnR u f a t m) (M : MadeT f a t m f' a' t' m') (D2 : DrawnR u f2 a2 t2 m2) (M2 : MadeT f2 a2 t2 m2 f' a' t' m') {time : Int} (hb : BigT time) : atL u f a t m time = atL u f2 a2 t2 m2 time := by
  obtain ⟨p1, h1⟩ := (drawn_known D).made _ _ _ _ M
  obtain ⟨p2, h2⟩ := (drawn_known D2).made _ _ _ _ M2
  have T := atL_told (u := u) (time := time) (m := m') p1.sf p1.sa p1.t0
  rw [← (h1.same _ _ hb T).1, ← (h2.same _ _ hb T).1]
end My

/-! repr of deep things, in a def that is called where no repr is under way -/
namespace MyG
open PySem PySem.Spec PyProof.Rows L2
/-- a def's promise where no repr is under way -/
structure FnG (P : Program) (w : World) (K : PySem.W.Frag) (mg : Str → Option Value) (base : Heap) (k : Nat) (f : Addr) (fd : FuncData) (ps : List Str) (sp : Sp) : Prop where
  len : ∀ vs H Q E, sp vs H Q E → vs.length = ps.length
  run : ∀ (A : Around) (outer : List Env) (s : Shared) (H : Hp) (args : Args) (us : List Value) (vs : List V) (Q : VK) (E : XK), Room k A → A.guards = some [] → Env0 P w K mg base A outer s H →
    BindsTo s fd args (ps.zip us) → Vals vs us → sp vs H Q E → codeAny (model P w) A (.call (.ref f) args) (CR CX0 outer P w H s Q E) s
section
variable {P : Program} {w : World} {K : PySem.W.Frag} {mg : Str → Option Value} {base : Heap}
theorem okG {x qual : Str} {st : Stmt} {f : Addr} {fd : FuncData} {N ps : List Str} {k : Nat} {sp : Sp} (D : Fun K x qual st f fd) (S : FnScope N ps (defScope st)) (len : ∀ vs H Q E, sp vs H Q E → vs.length = ps.length)
    (go : ∀ (cdv : Value) (A : Around) (outer : List Env) (s : Shared) (H : Hp) (vs : List V) (Q : VK) (E : XK), Room k (A.deeper (envOfC qual (defScope st) s.heap.objs.size f cdv)) → (A.deeper (envOfC qual (defScope st) s.heap.objs.size f cdv)).guards = some [] →
      sp vs H Q E → ∃ t, PSs (cxOf CX0 P w K mg base N qual (defScope st) f cdv A outer s H E).nox (defBody st) t ∧ t { nx := fun _ H' => Q .non H', rt := Q } (start N vs) H) : FnG P w K mg base (k + 1) f fd ps sp := by
  obtain ⟨oc, od, kV, doc, pm, an, cdv, ct, osl, rfl, lk, code⟩ := D.ex
  refine ⟨len, fun A outer s H args us vs Q E room gd e0 bd rv hs => ?_⟩
  have old : ∀ b o, base.get? b = some o → s.heap.get? b = some o := fun b o e => (e0.bs b o e).1
  have KX : K.In s.heap := e0.mod.kin.keeps old
  have names : ∀ y ∈ ps.zip us, (defScope st).names.lookup y.1 = some .local ∨ ((defScope st).names.lookup y.1 = some .cell ∧ ((cellsFrom (s.heap.objs.size + 1) (defScope st).names []).lookup y.1).isSome = true) := fun ⟨n, v⟩ hy =>
    (S.par n (List.of_mem_zip hy).1).imp id fun q => ⟨q, PySem.W.cellsFrom_some _ _ _ (.inl q)⟩
  refine codeAny_call_function room.depth (KX _ _ lk) rfl S.co S.gen rfl (PySem.W.codeRec_of KX code) (bd _ _ _ _ (wpAny_newFunctionEnv_cells S.kind names ?_))
  rintro env rfl s1 call
  obtain ⟨t, body, q0⟩ := go cdv A outer s H vs Q E (room.deeper _) gd hs
  have I := inv_start (CX := CX0) (E := E) S room.hd e0 (len _ _ _ _ hs) rv call
  refine ⟨(e0.mod.nolimit.keeps old).keeps call.toInCall.keep, codeAny_func (wpAny_mono (body.nox.run [] s1 (start N vs) H _ I q0) ?_ fun _ _ z => z)⟩
  intro fl s' z
  have bye : ∀ {σ' : L2.St} {H' : Hp} {v : V} {u : Value}, Inv (cxOf CX0 P w K mg base N qual (defScope st) f cdv A outer s H E) [] σ' H' s' → RelV v u → Q v H' → CE outer P w H s Q u s' := fun {σ' H' v u} J r y => ⟨v, H', J.os, J.bare, J.base, J.hok, r, y⟩
  cases fl
  case ret u =>
    obtain ⟨v, σ', H', J, r, y⟩ := z
    exact bye J r y
  case next =>
    obtain ⟨σ', H', J, y⟩ := z
    exact bye (v := V.non) (u := Value.none) J rfl y
  all_goals
    obtain ⟨_, _, _, y⟩ := z
    exact False.elim y
end
/-- repr of a thing that is known deep down -/
def rReprD (K : PySem.W.Frag) : List V → Hp → VK → Prop := fun xs H Q =>
  ∃ (a : Addr) (d : PyData), xs = [.ref a] ∧ Dp K H (.ref a) d ∧ d.showable = true ∧ d.hasDict = false ∧ d.depth ≤ 30 ∧ d.shown.length ≤ sizeLine ∧ Q (.str d.shown) H
theorem call_reprD {X : Cx} (gd : X.A.guards = some []) (un : X.A.units + 64 < cLine) : CallR X (.builtin "repr") (rReprD X.K) := by
  intro pins s σ H xs us Q I rv z
  obtain ⟨a, d, rfl, dp, sh, nd, de, sz, q⟩ := z
  cases rv with
  | cons r0 rr =>
    cases rr
    cases r0
    obtain ⟨as, rd⟩ := Dp.reads I d (.ref a) (.ref a) dp rfl
    refine repr_of_reads' rd sh (fun y => by rw [nd] at y; cases y) gd (by omega) (fun _ _ e => e) (fun h' u tk old => ?_) sz
    exact ⟨.str d.shown, H, I.kept (t' := tk) old, ⟨u, rfl⟩, q⟩
end MyG

namespace My
open PySem PySem.Spec PyProof.Rows L2
/-! what is drawn is small, and so what is made of it can be shown -/
def TinyI (i : Int) : Prop := -1000 < i ∧ i < 1000
def TinyO (o : Option Int) : Prop := ∀ i, o = some i → TinyI i
def Few (x : Stp) : Prop := TinyI x.1 ∧ TinyO x.2
theorem chain_few : ∀ {ss : List Sti} {x : Sti}, ChainS x ss → ∀ y ∈ ss, x.1 < y.1 ∧ y.1 ≤ x.1 + 3 * ss.length ∧ x.2 < y.2 ∧ y.2 ≤ x.2 + 3 * ss.length
  | [], _, _, _, h => nomatch h
  | z :: r, x, hc, y, h => by
    obtain ⟨⟨a, b, c, d⟩, hr⟩ := hc
    rw [List.length_cons]
    rcases List.mem_cons.mp h with rfl | h
    · omega
    · have := chain_few hr y h
      omega
theorem few_up {ss : List Sti} (h : ∀ y ∈ ss, TinyI y.1 ∧ TinyI y.2) : ∀ x ∈ ss.map up, Few x := fun x hx => by
  obtain ⟨y, hy, rfl⟩ := List.mem_map.mp hx
  exact ⟨(h y hy).1, fun i e => Option.some.inj e ▸ (h y hy).2⟩
theorem chain_tiny {ss : List Sti} {x : Sti} (hc : ChainS x ss) (l : ss.length ≤ 3) (b1 : -100 < x.1 ∧ x.1 < 100) (b2 : -100 < x.2 ∧ x.2 < 100) : ∀ y ∈ ss, TinyI y.1 ∧ TinyI y.2 := fun y hy => by
  have := chain_few hc y hy
  exact ⟨⟨by omega, by omega⟩, ⟨by omega, by omega⟩⟩
theorem lastS_few {ss : List Sti} {x : Sti} (hc : ChainS x ss) (l : ss.length ≤ 3) : x.1 ≤ (lastS x ss).1 ∧ (lastS x ss).1 ≤ x.1 + 9 ∧ x.2 ≤ (lastS x ss).2 ∧ (lastS x ss).2 ≤ x.2 + 9 := by
  unfold lastS
  cases h : ss.getLast? with
  | none => simp only [Option.getD_none]; omega
  | some y =>
    have := chain_few hc y (List.mem_of_getLast? h)
    simp only [Option.getD_some]
    omega
theorem drawn_few {u : Option Int} {f : List Stp} {a : List Sti} {t m : Int} (D : DrawnR u f a t m) : TinyO u ∧ (∀ x ∈ f, Few x) ∧ ∀ x ∈ a.map up, Few x := by
  cases D with
  | none => exact ⟨fun i e => (nomatch e), fun x h => (nomatch h), fun x h => (nomatch h)⟩
  | ends u t0 d ss hu ht hc hl hd =>
    refine ⟨fun i e => ?_, fun x h => ?_, fun x h => nomatch h⟩
    · cases e
      exact ⟨by omega, by omega⟩
    · have hq := lastS_few hc hl
      rcases List.mem_append.mp h with h | h
      · exact few_up (chain_tiny hc hl (by show _ ∧ _; dsimp only; omega) (by show _ ∧ _; dsimp only; omega)) x h
      · rw [List.mem_singleton] at h
        subst h
        refine ⟨?_, fun i e => nomatch e⟩
        dsimp only at hq
        exact ⟨by show _ < _ + _; omega, by show _ + _ < _; omega⟩
  | turns u t0 dt dm ss as x y hu ht hc hl ha hla hx hy hdt hdm =>
    have hq := lastS_few hc hl
    dsimp only at hq
    refine ⟨fun i e => ?_, fun x h => ?_, fun x h => ?_⟩
    · cases e
      exact ⟨by omega, by omega⟩
    · exact few_up (chain_tiny hc hl (by dsimp only; omega) (by dsimp only; omega)) x h
    · exact few_up (chain_tiny ha hla (by omega) (by omega)) x h
theorem made_few {fs : List Stp} {as : List Sti} {t m : Int} {f' : List Stp} {a' : List Sti} {t' m' : Int} (M : MadeT fs as t m f' a' t' m') (h1 : ∀ x ∈ fs, Few x) (h2 : ∀ x ∈ as.map up, Few x) : (∀ x ∈ f', Few x) ∧ ∀ x ∈ a'.map up, Few x := by
  obtain ⟨p, b, _, _, rfl, e, _, _⟩ := M
  have all : ∀ x ∈ fs ++ (as.take p).map up, Few x := fun x h => by
    rcases List.mem_append.mp h with h | h
    · exact h1 x h
    · rw [List.map_take] at h
      exact h2 x (List.mem_of_mem_take h)
  exact ⟨fun x h => all x (List.mem_of_mem_take h), fun x h => all x (List.mem_of_mem_drop (List.mem_of_mem_take (e ▸ h)))⟩
theorem tiny_int {i : Int} (h : TinyI i) : (PyData.int i).showable = true ∧ PyData.leavesShort 13 (.int i) = true := by
  have hb : i.natAbs < 1024 := by have := h.1; have := h.2; omega
  constructor
  · show decide (i.natAbs.log2 < 1920) = true
    have : i.natAbs.log2 < 1920 := by
      by_cases z : i.natAbs = 0
      · rw [z]; decide
      · exact Nat.lt_of_lt_of_le ((Nat.log2_lt z).mpr (show i.natAbs < 2 ^ 10 from hb)) (by decide)
    exact decide_eq_true this
  · show decide ((PyData.shown (.int i)).length ≤ 13) = true
    exact decide_eq_true (PyData.shown_int_le (by omega))
theorem tiny_opt {o : Option Int} (h : TinyO o) : (cD o).showable = true ∧ PyData.leavesShort 13 (cD o) = true ∧ (cD o).hasDict = false ∧ (cD o).depth = 0 ∧ (cD o).bulk = 0 := by
  cases o with
  | none => exact ⟨rfl, rfl, rfl, rfl, rfl⟩
  | some i => exact ⟨(tiny_int (h i rfl)).1, (tiny_int (h i rfl)).2, rfl, rfl, rfl⟩
structure Shows (d : PyData) (n k : Nat) : Prop where
  sh : d.showable = true
  sl : PyData.leavesShort 13 d = true
  nd : d.hasDict = false
  dp : d.depth ≤ n
  bk : d.bulk ≤ k
structure ShowsA (ds : List PyData) (n k : Nat) : Prop where
  sh : PyData.showableAll ds = true
  sl : PyData.leavesShortAll 13 ds = true
  nd : PyData.hasDictAll ds = false
  dp : PyData.depthAll ds ≤ n
  bk : PyData.bulkAll ds ≤ k
theorem ShowsA.nil {n k : Nat} : ShowsA [] n k := ⟨rfl, rfl, rfl, Nat.zero_le _, Nat.zero_le _⟩
theorem ShowsA.cons {d : PyData} {ds : List PyData} {n k j : Nat} (h : Shows d n k) (t : ShowsA ds n j) : ShowsA (d :: ds) n (k + 1 + j) := by
  refine ⟨?_, ?_, ?_, ?_, ?_⟩
  · show (d.showable && PyData.showableAll ds) = true
    rw [h.sh, t.sh]; rfl
  · show (PyData.leavesShort 13 d && PyData.leavesShortAll 13 ds) = true
    rw [h.sl, t.sl]; rfl
  · show (d.hasDict || PyData.hasDictAll ds) = false
    rw [h.nd, t.nd]; rfl
  · show max d.depth (PyData.depthAll ds) ≤ n
    exact Nat.max_le.mpr ⟨h.dp, t.dp⟩
  · show d.bulk + 1 + PyData.bulkAll ds ≤ _
    have := h.bk
    have := t.bk
    omega
theorem ShowsA.tup {ds : List PyData} {n k : Nat} (h : ShowsA ds n k) : Shows (.tuple ds) (n + 1) k := ⟨h.sh, h.sl, h.nd, Nat.succ_le_succ h.dp, h.bk⟩
theorem Shows.mono {d : PyData} {n k n' k' : Nat} (h : Shows d n k) (a : n ≤ n') (b : k ≤ k') : Shows d n' k' := ⟨h.sh, h.sl, h.nd, Nat.le_trans h.dp a, Nat.le_trans h.bk b⟩
theorem few_shows {x : Stp} (h : Few x) : Shows (stD x) 1 2 :=
  (ShowsA.cons (n := 0) (k := 0) ⟨(tiny_int h.1).1, (tiny_int h.1).2, rfl, Nat.le_refl _, Nat.le_refl _⟩
    (ShowsA.cons (k := 0) (j := 0) ⟨(tiny_opt h.2).1, (tiny_opt h.2).2.1, (tiny_opt h.2).2.2.1, Nat.le_of_eq (tiny_opt h.2).2.2.2.1, Nat.le_of_eq (tiny_opt h.2).2.2.2.2⟩ .nil)).tup
theorem fews_shows : ∀ {xs : List Stp}, (∀ x ∈ xs, Few x) → ShowsA (xs.map stD) 1 (3 * xs.length)
  | [], _ => .nil
  | x :: xs, h => by
    have := (few_shows (h x (.head _))).mono (Nat.le_refl 1) (Nat.le_refl 2) |> fun a => ShowsA.cons a (fews_shows fun y hy => h y (.tail _ hy))
    rw [List.map_cons, List.length_cons]
    exact ⟨this.sh, this.sl, this.nd, this.dp, by have := this.bk; omega⟩
/-- what repr shows of a tally's parts -/
def partsD (u : Option Int) (f : List Stp) (a : List Sti) : PyData := .tuple [.tuple (f.map stD), .tuple (a.map siD), cD u]
theorem parts_shows {u : Option Int} {f : List Stp} {a : List Sti} (hu : TinyO u) (hf : ∀ x ∈ f, Few x) (ha : ∀ x ∈ a.map up, Few x) (lf : f.length ≤ 1000) (la : a.length ≤ 1000) :
    (partsD u f a).showable = true ∧ (partsD u f a).hasDict = false ∧ (partsD u f a).depth ≤ 30 ∧ (partsD u f a).shown.length ≤ sizeLine := by
  have e : a.map siD = (a.map up).map stD := by rw [List.map_map]; rfl
  have A := (fews_shows ha).tup
  rw [← e, List.length_map] at A
  have B : Shows (cD u) 2 0 := ⟨(tiny_opt hu).1, (tiny_opt hu).2.1, (tiny_opt hu).2.2.1, by rw [(tiny_opt hu).2.2.2.1]; decide, Nat.le_of_eq (tiny_opt hu).2.2.2.2⟩
  have S := (ShowsA.cons (fews_shows hf).tup (ShowsA.cons A (ShowsA.cons (j := 0) B .nil))).tup
  refine ⟨S.sh, S.nd, Nat.le_trans S.dp (by decide), PyData.shown_fits_bulk (B := 13) (by decide) (by decide) S.sl (Nat.le_trans S.bk ?_)⟩
  have : (2 : Nat) ^ 20 = 1048576 := by decide
  omega
end My

namespace My
open PySem PySem.Spec PyProof.Rows L2
local macro_rules | `(tactic| walk_at "side") => `(tactic| first | (dsimp only; omega) | exact ⟨by omega, by omega⟩ | exact Or.inl ⟨by omega, by omega⟩ | exact Or.inr ⟨by omega, by omega⟩ | decide)
local macro_rules | `(tactic| walk_at "sq") => `(tactic| first | assumption | exact SqL.of (by assumption) | exact SqT.of (by assumption) | (refine L2.Same.seq (by assumption) ?_; walk_at "sq") | (refine L2.Same.seqT (by assumption) ?_; walk_at "sq") | exact Or.inl (by walk_at "sq") | exact Or.inr (by walk_at "sq"))
local macro_rules | `(tactic| walk_at "1") => `(tactic| first
  | refine ⟨_, rfl, iteT ?_⟩
  | refine ⟨_, rfl, iteF ?_⟩
  | refine ⟨_, rfl, ?_⟩
  | refine ⟨_, _, rfl, rfl, (by walk_at "side"), ?_⟩
  | refine ⟨_, _, rfl, rfl, ?_⟩
  | refine ⟨_, _, _, _, true, rfl, .ty _, .base (.int _), kit_ty (a := "int") (by decide +kernel), ?_⟩
  | refine ⟨_, _, _, _, false, rfl, .ty _, .base (.int _), kit_ty (a := "int") (by decide +kernel), ?_⟩
  | refine ⟨_, _, rfl, (by walk_at "sq"), ?_⟩
  | refine ⟨_, _, _, _, rfl, rfl, (by walk_at "sq"), (by first | rfl | assumption), ?_⟩
  | refine Or.inl ⟨_, _, _, _, rfl, rfl, (by walk_at "sq"), (by first | rfl | assumption), ?_⟩
  | refine Or.inr (Or.inl ⟨_, _, _, _, rfl, rfl, (by walk_at "sq"), (by first | rfl | assumption), ?_⟩)
  | refine ⟨_, _, rfl, Or.inl ⟨(by walk_at "sq"), ?_⟩⟩
  | refine ⟨rfl, ?_⟩
  | refine iteT ?_
  | refine iteF ?_
  | refine ⟨_, _, _, _, _, rfl, (by assumption), (by assumption), (by assumption), (by assumption), ?_⟩
  | refine Or.inl ⟨_, rfl, ?_⟩
  | refine Or.inr ⟨_, rfl, ?_⟩
  | refine ⟨_, _, rfl, (by walk_at "side"), ?_⟩
  | refine ⟨_, _, rfl, ?_⟩)
local macro_rules | `(tactic| walk_at "fld") => `(tactic| skip)
local macro_rules | `(tactic| walk_at "s") => `(tactic| repeat walk_at "1")
local macro_rules | `(tactic| walk_at "size") => `(tactic| first | exact Nat.le_of_ble_eq_true rfl | (simp only [List.length_map, List.length_append, List.length_cons, List.length_nil]; omega))
local macro_rules | `(tactic| walk_at "new") => `(tactic| (first | refine ⟨(by walk_at "size"), fun p hp => ?_⟩ | refine fun p hp => ?_); (generalize hq : upd _ p _ = H1); (obtain ⟨s, e⟩ := new_facts hp hq); clear hq)
/-! the law's pairs: what is drawn and the tally made of it -/
open LamX in
theorem ext_bxn {b : Addr} {H0 H H' : Hp} (s : ExtN H0 H) (t : BxN b H H') (n : H0 b = none) : ExtN H0 H' := fun c o e m => t c o (ne_of_none e n) m (s c o e m)
theorem sql_ext {K : PySem.W.Frag} {H H' : Hp} {a : Addr} {xs : List V} (s : LamX.ExtN H H') (h : SqL K H a xs) : SqL K H' a xs := by
  rcases h with (h | ⟨ob, h⟩) | h
  · exact .inl (.inl (s _ _ h fun ps q => nomatch q))
  · exact .inl (.inr ⟨ob, s _ _ h fun ps q => nomatch q⟩)
  · exact .inr h
/-- tuples and objects stay -/
def KeepTI (H H' : Hp) : Prop := (∀ c xs, H c = some (.tup xs) → H' c = some (.tup xs)) ∧ ∀ c C dx fs, H c = some (.ins C dx fs) → H' c = some (.ins C dx fs)
theorem sts_keep {H H' : Hp} (k : KeepTI H H') : ∀ {ss : List Stp} {xs : List V}, DvAll H xs (ss.map stD) → DvAll H' xs (ss.map stD)
  | [], xs, h => by
    obtain rfl := h.inv0
    exact .nil
  | s :: ss, xs, h => by
    obtain ⟨x, ys, rfl, d, t⟩ := DvAll.inv (d := stD s) (ds := ss.map stD) h
    obtain ⟨p, rfl, e⟩ := dv_pr (x := prO s) d
    exact .cons (pr_dv (x := prO s) (k.1 _ _ e)) (sts_keep k t)
theorem sis_keep {H H' : Hp} (k : KeepTI H H') {ss : List Sti} {xs : List V} (h : DvAll H xs (ss.map siD)) : DvAll H' xs (ss.map siD) := by
  have e : ss.map siD = (ss.map up).map stD := by rw [List.map_map]; rfl
  rw [e] at h ⊢
  exact sts_keep k h
theorem TalAt.keep {C : Addr} {H H' : Hp} {p : Addr} {u : Option Int} {f : List Stp} {a : List Sti} {t m : Int} (k : KeepTI H H') (h : TalAt C H p u f a t m) : TalAt C H' p u f a t m := by
  obtain ⟨dx, pf, pa, xf, xa, h1, h2, h3, h4, h5⟩ := h
  exact ⟨dx, pf, pa, xf, xa, k.2 _ _ _ _ h1, k.1 _ _ h2, sts_keep k h3, k.1 _ _ h4, sis_keep k h5⟩
theorem raw_keep {H H' H0 : Hp} {v : V} {u : Option Int} {f : List Stp} {a : List Sti} {t m : Int} (k : KeepTI H H') (l : ∀ c xs, H0 c = none → H c = some (.lst xs) → H' c = some (.lst xs)) (nw : NewLs H0 H v) (h : Dv H v (rawD u f a t m)) (lf : f.length ≤ 2000) (la : a.length ≤ 2000) : Dv H' v (rawD u f a t m) := by
  obtain ⟨r, pf, pa, xf, xa, rfl, er, e1, h1, e2, h2⟩ := h.rawE
  obtain ⟨r', u', pf', pa', t', m', ev, er', n1, n2⟩ := nw
  cases ev
  rw [er] at er'
  cases er'
  exact .tup (k.1 _ _ er) (.cons (cV_dv u) (.cons (.lst (l _ _ n1 e1) (sts_keep k h1) (by rw [List.length_map]; exact lf)) (.cons (.lst (l _ _ n2 e2) (sis_keep k h2) (by rw [List.length_map]; exact la)) (.cons (.int _) (.cons (.int _) .nil))))) (by show 5 ≤ 2000; decide)
/-- the heap without box and list -/
def fz (b L : Addr) (H : Hp) : Hp := off L (off b H)
theorem fz_same {b L : Addr} {H : Hp} : Same (fz b L H) H := off_same.trans off_same
theorem fz_of {b L c : Addr} {H : Hp} {o : HO} (h : fz b L H c = some o) : c ≠ L ∧ c ≠ b ∧ H c = some o := ⟨(off_of h).1, (off_of (off_of h).2).1, (off_of (off_of h).2).2⟩
theorem fz_at {b L c : Addr} {H : Hp} {o : HO} (n1 : c ≠ L) (n2 : c ≠ b) (h : H c = some o) : fz b L H c = some o := by
  show off L (off b H) c = some o
  rw [off_ne n1, off_ne n2]
  exact h
theorem fz_keep {b L : Addr} {H : Hp} {xs ys : List V} (hb : H b = some (.lst xs)) (hL : H L = some (.lst ys)) : KeepTI H (fz b L H) :=
  ⟨fun c zs e => fz_at (fun z => by rw [z, hL] at e; cases e) (fun z => by rw [z, hb] at e; cases e) e, fun c C dx fs e => fz_at (fun z => by rw [z, hL] at e; cases e) (fun z => by rw [z, hb] at e; cases e) e⟩
/-- what is drawn, and what is made of it -/
structure PairD (C : Addr) (G : Hp) (v : V) (p : Addr) (u : Option Int) (f : List Stp) (a : List Sti) (t m : Int) (f' : List Stp) (a' : List Sti) (t' m' : Int) : Prop where
  d : Dv G v (rawD u f a t m)
  ta : TalAt C G p u f' a' t' m'
  D : DrawnR u f a t m
  M : MadeT f a t m f' a' t' m'
theorem PairD.same {C : Addr} {G G' : Hp} {v : V} {p : Addr} {u : Option Int} {f : List Stp} {a : List Sti} {t m : Int} {f' : List Stp} {a' : List Sti} {t' m' : Int} (s : Same G G') (h : PairD C G v p u f a t m f' a' t' m') : PairD C G' v p u f a t m f' a' t' m' :=
  ⟨h.d.same s, h.ta.same s, h.D, h.M⟩
/-- a pair of the list -/
def PairAt (C : Addr) (G : Hp) (w : V) : Prop := ∃ (q : Addr) (v : V) (p : Addr) (u : Option Int) (f : List Stp) (a : List Sti) (t m : Int) (f' : List Stp) (a' : List Sti) (t' m' : Int), w = .ref q ∧ G q = some (.tup [v, .ref p]) ∧ PairD C G v p u f a t m f' a' t' m'
theorem PairAt.same {C : Addr} {G G' : Hp} {w : V} (s : Same G G') (h : PairAt C G w) : PairAt C G' w := by
  obtain ⟨q, v, p, u, f, a, t, m, f', a', t', m', rfl, e, d⟩ := h
  exact ⟨q, v, p, u, f, a, t, m, f', a', t', m', rfl, s _ _ e, d.same s⟩
/-- what is kept while the list fills -/
structure Six (C b L : Addr) (T : List (Addr × Str)) (H0 H : Hp) (ws : List V) : Prop where
  same : Same H0 H
  nb : H0 b = none
  nL : H0 L = none
  ne : L ≠ b
  box : BoxAt H b
  tabs : LamX.Tabs T H
  at_ : H L = some (.lst ws)
  all : ∀ w ∈ ws, PairAt C (fz b L H) w
section
variable {C b L : Addr} {T : List (Addr × Str)} {H0 H H' : Hp} {ws : List V}
theorem Six.bx (h : Six C b L T H0 H ws) (s : Bx b H H') (hb : BoxAt H' b) : Six C b L T H0 H' ws :=
  ⟨s.same h.same h.nb, h.nb, h.nL, h.ne, hb, tabs_bx h.tabs h.box s, s _ _ h.ne h.at_, fun w hw => (h.all w hw).same (off_off (off_bx s))⟩
theorem Six.to (h : Six C b L T H0 H ws) (s : Same H H') : Six C b L T H0 H' ws := h.bx (Bx.of s) (h.box.same s)
theorem Six.put {w : V} (h : Six C b L T H0 H ws) (hw : PairAt C (fz b L H) w) : Six C b L T H0 (upd H L (.lst (ws ++ [w]))) (ws ++ [w]) := by
  have sf : Same (fz b L H) (fz b L (upd H L (.lst (ws ++ [w])))) := fun c o e => by
    obtain ⟨n1, n2, e⟩ := fz_of e
    exact fz_at n1 n2 (by rw [upd_ne n1]; exact e)
  refine ⟨fun c o e => ?_, h.nb, h.nL, h.ne, ?_, fun p hp => ?_, upd_same, fun x hx => ?_⟩
  · rw [upd_ne (ne_of_none e h.nL)]
    exact h.same c o e
  · obtain ⟨x, y, z, h0, h1⟩ := h.box
    exact ⟨x, y, z, h0, by rw [upd_ne h.ne.symm]; exact h1⟩
  · obtain ⟨ps, h1, h2, h3⟩ := h.tabs p hp
    refine ⟨ps, by rw [upd_ne (fun z => by rw [z, h.at_] at h1; cases h1)]; exact h1, h2, fun pos cv hc => ?_⟩
    obtain ⟨c, e1, e2⟩ := h3 pos cv hc
    exact ⟨c, e1, by rw [upd_ne (fun z => by rw [z, h.at_] at e2; cases e2)]; exact e2⟩
  · rcases List.mem_append.mp hx with hx | hx
    · exact (h.all x hx).same sf
    · rw [List.mem_singleton.mp hx]
      exact hw.same sf
end
/-! blocks of a body -/
theorem pss_pre {X : Cx} {ss : List Stmt} {t u : TS} (h : PSs X ss t) (i : ∀ D σ H, u D σ H → t D σ H) : PSs X ss u := ⟨fun pins s σ H D I q => h.run pins s σ H D I (i D σ H q)⟩
theorem ps_pre {X : Cx} {st : Stmt} {t u : TS} (h : PS X st t) (i : ∀ D σ H, u D σ H → t D σ H) : PS X st u := ⟨fun pins s σ H D I q => h.run pins s σ H D I (i D σ H q)⟩
def forBody (s : Stmt) : List Stmt := match s with
  | .For _ _ b _ _ => b
  | _ => []
def nth (l : List Stmt) (i : Nat) : Stmt := l.getD i (.Pass ⟨0, 0, 0, 0⟩)
/-! what is made of what is drawn -/
theorem as_back (a : List Sti) : ((a.map siD).map stO).map dn = a := by
  have e : a.map siD = (a.map up).map stD := by rw [List.map_map]; rfl
  rw [e, stOs, List.map_map]
  have i : (dn ∘ up) = id := funext fun x => rfl
  rw [i, List.map_id]
theorem c_back (u : Option Int) : cO (cD u) = u := by cases u <;> rfl
theorem made_of {C D : Addr} {H : Hp} {v : V} {u : Option Int} {f : List Stp} {a : List Sti} {t m : Int} {Q : VK} {E : XK} (h : Dv H v (rawD u f a t m)) (lf : f.length ≤ 1000) (la : a.length ≤ 1000) (w : wordT (cD u) (.list (f.map stD)) (.list (a.map siD)) (.int t) (.int m) = none)
    (k : ∀ H' p f' a' t' m', Same H H' → H p = none → MadeT f a t m f' a' t' m' → TalAt C H' p u f' a' t' m' → Q (.ref p) H') : spMade C D [v] H Q E := by
  obtain ⟨r, pf, pa, xf, xa, rfl, er, e1, h1, e2, h2⟩ := h.rawE
  refine ⟨r, cV u, .ref pf, .ref pa, .int t, .int m, cD u, .list (f.map stD), .list (a.map siD), .int t, .int m, rfl, Or.inr er, cV_dv u, .lst e1 h1 (by rw [List.length_map]; omega), .lst e2 h2 (by rw [List.length_map]; omega), .int t, .int m, ⟨fun w' hw' => (by rw [w] at hw'; cases hw'), fun _ => ⟨?_, ?_, fun H' p f' a' t' m' s n M T => k H' p f' a' t' m' s n ?_ ?_⟩⟩⟩
  · show (f.map stD).length ≤ 1000
    rw [List.length_map]
    exact lf
  · show (a.map siD).length ≤ 1000
    rw [List.length_map]
    exact la
  · have M' : MadeT ((f.map stD).map stO) (((a.map siD).map stO).map dn) t m f' a' t' m' := M
    rw [stOs, as_back] at M'
    exact M'
  · rw [c_back] at T
    exact T
theorem otherw_self (f : List Stp) (a : List Sti) (t m : Int) : Otherw f a t m f a t m := by
  by_cases h : a = []
  · exact Or.inl ⟨h, rfl, rfl, rfl, rfl⟩
  · refine Or.inr ⟨h, 0, 1, by decide, by decide, by decide, rfl, ?_, ?_, ?_⟩
    · simp only [widen, rolls, List.range_succ, List.range_zero, List.nil_append, List.flatMap_cons, List.flatMap_nil, List.append_nil]
      simp
      exact (List.map_id'' (fun x => by simp [mv]) a).symm
    · show t = t * 1
      omega
    · show m = m * 1
      omega
/-- what is drawn is made in one way alone -/
theorem made_one {u : Option Int} {f f' f2 : List Stp} {a a' a2 : List Sti} {t m t' m' t2 m2 : Int} (D : DrawnR u f a t m) (M : MadeT f a t m f' a' t' m') (M2 : MadeT f a t m f2 a2 t2 m2) : f2 = f' ∧ a2 = a' ∧ t2 = t' ∧ m2 = m' :=
  ((drawn_known D).other f a t m (otherw_self f a t m)).2 _ _ _ _ _ _ _ _ M M2
theorem bx_keep {b : Addr} {H H' : Hp} (hb : BoxAt H b) (s : Bx b H H') : KeepTI H H' := by
  obtain ⟨x, y, z, _, eb⟩ := hb
  exact ⟨fun c xs e => s _ _ (fun q => by rw [q, eb] at e; cases e) e, fun c C dx fs e => s _ _ (fun q => by rw [q, eb] at e; cases e) e⟩
theorem PairD.len {C : Addr} {G : Hp} {v : V} {p : Addr} {u : Option Int} {f : List Stp} {a : List Sti} {t m : Int} {f' : List Stp} {a' : List Sti} {t' m' : Int} (h : PairD C G v p u f a t m f' a' t' m') : f'.length ≤ 1000 ∧ a'.length ≤ 1000 :=
  let k := ((drawn_known h.D).made _ _ _ _ h.M).1
  ⟨k.lf, k.la⟩
/-- the tallies are alike just if the times tell the same -/
theorem pairs_like {u u2 : Option Int} {f f' f2 f2' : List Stp} {a a' a2 a2' : List Sti} {t m t' m' t2 m2 t2' m2' : Int} (D : DrawnR u f a t m) (M : MadeT f a t m f' a' t' m') (D2 : DrawnR u2 f2 a2 t2 m2) (M2 : MadeT f2 a2 t2 m2 f2' a2' t2' m2') :
    talE u f' a' t' m' u2 f2' a2' t2' m2' = (List.range 88).all fun j => decide (atL u f a t m (0 - 8 + (j : Int)) = atL u2 f2 a2 t2 m2 (0 - 8 + (j : Int))) := by
  obtain ⟨n, hn⟩ : ∃ n : Nat, n = 88 := ⟨_, rfl⟩
  rw [← hn, Bool.eq_iff_iff, List.all_eq_true]
  constructor
  · intro h x hx
    obtain ⟨rfl, rfl, rfl, rfl, rfl⟩ := of_decide_eq_true h
    have hx := List.mem_range.mp hx
    refine decide_eq_true (crit_back D M D2 M2 ⟨?_, ?_⟩)
    · rw [show (10 : Int) ^ 15 = 1000000000000000 by decide]
      omega
    · rw [show (10 : Int) ^ 15 = 1000000000000000 by decide]
      omega
  · intro h
    refine decide_eq_true (crit D M D2 M2 fun time h1 h2 => ?_)
    have := of_decide_eq_true (h (time + 8).toNat (List.mem_range.mpr (by omega)))
    rw [show (0 : Int) - 8 + ((time + 8).toNat : Int) = time by omega] at this
    exact this
end My

namespace My
open PySem PySem.Spec PyProof.Rows L2
local macro_rules | `(tactic| walk_at "side") => `(tactic| first | (dsimp only; omega) | exact ⟨by omega, by omega⟩ | exact Or.inl ⟨by omega, by omega⟩ | exact Or.inr ⟨by omega, by omega⟩ | decide)
local macro_rules | `(tactic| walk_at "sq") => `(tactic| first | assumption | exact SqL.of (by assumption) | exact SqT.of (by assumption) | (refine L2.Same.seq (by assumption) ?_; walk_at "sq") | (refine L2.Same.seqT (by assumption) ?_; walk_at "sq") | exact Or.inl (by walk_at "sq") | exact Or.inr (by walk_at "sq"))
local macro_rules | `(tactic| walk_at "1") => `(tactic| first
  | refine ⟨_, rfl, iteT ?_⟩
  | refine ⟨_, rfl, iteF ?_⟩
  | refine ⟨_, rfl, ?_⟩
  | refine ⟨_, _, rfl, rfl, (by walk_at "side"), ?_⟩
  | refine ⟨_, _, rfl, rfl, ?_⟩
  | refine ⟨_, _, _, _, true, rfl, .ty _, .base (.int _), kit_ty (a := "int") (by decide +kernel), ?_⟩
  | refine ⟨_, _, _, _, false, rfl, .ty _, .base (.int _), kit_ty (a := "int") (by decide +kernel), ?_⟩
  | refine ⟨_, _, rfl, (by walk_at "sq"), ?_⟩
  | refine ⟨_, _, _, _, rfl, rfl, (by walk_at "sq"), (by first | rfl | assumption), ?_⟩
  | refine Or.inl ⟨_, _, _, _, rfl, rfl, (by walk_at "sq"), (by first | rfl | assumption), ?_⟩
  | refine Or.inr (Or.inl ⟨_, _, _, _, rfl, rfl, (by walk_at "sq"), (by first | rfl | assumption), ?_⟩)
  | refine ⟨_, _, rfl, Or.inl ⟨(by walk_at "sq"), ?_⟩⟩
  | refine ⟨rfl, ?_⟩
  | refine iteT ?_
  | refine iteF ?_
  | refine ⟨_, _, _, _, _, rfl, (by assumption), (by assumption), (by assumption), (by assumption), ?_⟩
  | refine Or.inl ⟨_, rfl, ?_⟩
  | refine Or.inr ⟨_, rfl, ?_⟩
  | refine ⟨_, _, rfl, (by walk_at "side"), ?_⟩
  | refine ⟨_, _, rfl, ?_⟩)
local macro_rules | `(tactic| walk_at "fld") => `(tactic| skip)
local macro_rules | `(tactic| walk_at "s") => `(tactic| repeat walk_at "1")
local macro_rules | `(tactic| walk_at "size") => `(tactic| first | exact Nat.le_of_ble_eq_true rfl | (simp only [List.length_map, List.length_append, List.length_cons, List.length_nil]; omega))
local macro_rules | `(tactic| walk_at "new") => `(tactic| (first | refine ⟨(by walk_at "size"), fun p hp => ?_⟩ | refine fun p hp => ?_); (generalize hq : upd _ p _ = H1); (obtain ⟨s, e⟩ := new_facts hp hq); clear hq)
/-! the law: a tally is drawn, made, told, put by -/
section
variable {P : Program} {w : World} {K : PySem.W.Frag} {mg : Str → Option Value} {base : Heap} {C D : Addr} {fa : Addr} {cdv : Value} {A : Around} {outer : List Env} {s : Shared} {H : Hp} {E : XK}
abbrev s_law : Stmt := topS 39
theorem sc_law : FnScope ["script", "k", "box", "made_here", "turn", "raw", "made", "other", "zmade", "mate", "same", "time"] ["script"] (defScope s_law) := ⟨rfl, rfl, rfl, by decide +kernel, rfl, by decide +kernel, by decide +kernel⟩
abbrev kBody : List Stmt := forBody (nth (defBody s_law) 0)
theorem rd_initQ {C D x dx : Addr} {H : Hp} {v0 v1 v2 v3 v4 : V} {d0 d1 d2 d3 d4 : PyData} {Q : VK} {E : XK} (h0 : Dv H v0 d0) (h1 : Dv H v1 d1) (h2 : Dv H v2 d2) (h3 : Dv H v3 d3) (h4 : Dv H v4 d4) (hw : wordT d0 d1 d2 d3 d4 = none) (l1 : (itemsD d1).length ≤ 1000) (l2 : (itemsD d2).length ≤ 1000)
    (k : ∀ H' f' a' t' m', Same H H' → MadeT (fsD d1) (asD d2) (intD d3) (intD d4) f' a' t' m' → TalAt C H' x (cO d0) f' a' t' m' → Q .non H') (nx : H x = none) (ndx : H dx = none) (nex : dx ≠ x) :
    spInitT C D [.ref x, v0, v1, v2, v3, v4] (upd (upd H dx (.own x)) x (.ins C dx [])) Q E := by
  have sx : Same H (upd (upd H dx (.own x)) x (.ins C dx [])) := fun b o e => by
    rw [upd_ne (ne_of_none e nx), upd_ne (ne_of_none e ndx)]
    exact e
  exact ⟨H, x, dx, v0, v1, v2, v3, v4, d0, d1, d2, d3, d4, rfl, nx, sx, upd_same, h0, h1, h2, h3, h4, fun w' hw' => (by rw [hw] at hw'; cases hw'), fun _ => ⟨l1, l2, k⟩⟩
/-- by, called with its keyword -/
structure ByKw (P : Program) (w : World) (K : PySem.W.Frag) (mg : Str → Option Value) (base : Heap) (C : Addr) : Prop where
  ex : ∃ f fd, FnOk P w K mg base CX0 3 f fd ["self", "time"] (spTold C) ∧ Meth K C "by" f ∧ KBn K fd ["self", "time"] 1 ["time"] (fun us ws => us ++ ws) (fun vs zs => vs ++ zs)
/-- what the law calls -/
structure Calls (P : Program) (w : World) (K : PySem.W.Frag) (mg : Str → Option Value) (base : Heap) (C D : Addr) : Prop where
  T : Txt mg
  R : TalCls K C
  Z : TalEq K mg C
  O : EqT P w K mg base C
  M : TalKw P w K mg base C D
  raw : Own P w K mg base "_law_raw" 3 ["box"] spRaw
  made : OwnX P w K mg base "_law_made" 7 ["raw"] (spMade C D)
  other : Own P w K mg base "_law_otherwise" 2 ["box", "raw"] spOther
  told : Own P w K mg base "_law_told_right" 4 ["raw", "made"] (spToldR C)
  byK : ByKw P w K mg base C
  by_ : Mth P w K mg base C "by" 3 ["self", "time"] (spTold C)
def tTurn (C : Addr) (T : List (Addr × Str)) : TS := fun D σ H => ∃ b L H0 z0 z1 z4 z5 z6 z7 z8 z9 z10 ws, σ = [z0, z1, some (.ref b), some (.ref L), z4, z5, z6, z7, z8, z9, z10, none] ∧ Six C b L T H0 H ws ∧ ws.length ≤ 100 ∧
  ∀ H' y5 y6 y7 y8 w, Six C b L T H0 H' (ws ++ [w]) → D.nx [z0, z1, some (.ref b), some (.ref L), z4, y5, y6, y7, y8, z9, z10, none] H'
set_option maxHeartbeats 16000000 in
theorem blk_turn {T : List (Addr × Str)} (F : Calls P w K mg base C D) (hr : Room 11 (A.deeper (envOfC "law" (defScope s_law) s.heap.objs.size fa cdv))) (gd : (A.deeper (envOfC "law" (defScope s_law) s.heap.objs.size fa cdv)).guards = some []) :
    PSs (cxOf CX0 P w K mg base ["script", "k", "box", "made_here", "turn", "raw", "made", "other", "zmade", "mate", "same", "time"] "law" (defScope s_law) fa cdv A outer s H E).nox (forBody (nth kBody 1)) (tTurn C T) := by
  obtain ⟨fM, fdM, FM, mM, MM, kM⟩ := F.M.ex
  obtain ⟨fB, fdB, FB, MB, kB⟩ := F.byK.ex
  obtain ⟨T_, R, Z, O, _, o_law_raw, o_law_made, o_law_otherwise, o_law_told_right, _, o_by⟩ := F
  refine pss_pre (pss_cons (ps_set (i := 5) sc_law.nd rfl (Or.inr rfl) (pe_own o_law_raw (hr.mono (by decide)) (pa_cons (pv 2) pa_nil)))
    (pss_cons (ps_asg (pe_tup (pa_cons (pe_ownX o_law_made (hr.mono (by decide)) takes0 (pa_cons (pv 5) pa_nil)) (pa_cons (pe_ownX o_law_made (hr.mono (by decide)) takes0 (pa_cons (pe_own o_law_otherwise (hr.mono (by decide)) (pa_cons (pv 2) (pa_cons (pv 5) pa_nil))) pa_nil)) pa_nil))) (pg_tup (by rfl) (pgs_cons (pg_name (i := 6) sc_law.nd rfl (Or.inl rfl)) (pgs_cons (pg_name (i := 7) sc_law.nd rfl (Or.inr rfl)) pgs_nil))))
    (pss_cons (ps_if (PW.pt (pw_or (pt_not (pt_val (pe_own o_law_told_right (hr.mono (by decide)) (pa_cons (pv 5) (pa_cons (pv 6) pa_nil))))) (pw_or1 (pt_cmpR (op_neT O Z (hr.mono (by decide))) (pv 6) (pv 7) (nomark _)))))
      (pss_one (ps_ret pe_bl))
      pss_nil)
    (pss_cons (ps_if (pt_cmpR op_ne (pe_callB (MyG.call_reprD gd hr.units) (by rfl) T_.repr (by decide +kernel) (pa_cons (pe_tup (pa_cons (pe_fld (pv 6) rfl) (pa_cons (pe_fld (pv 6) rfl) (pa_cons (pe_fld (pv 6) rfl) pa_nil)))) pa_nil)) (pe_callB (MyG.call_reprD gd hr.units) (by rfl) T_.repr (by decide +kernel) (pa_cons (pe_tup (pa_cons (pe_fld (pv 7) rfl) (pa_cons (pe_fld (pv 7) rfl) (pa_cons (pe_ix ix_tup (pv 5) pe_int (fun _ _ => rfl)) pa_nil)))) pa_nil)) (nomark _))
      (pss_one (ps_ret pe_bl))
      pss_nil)
    (pss_cons (ps_set (i := 8) sc_law.nd rfl (Or.inl rfl) (pe_makeK0 MM FM (hr.mono (by decide)) rfl mM kM passL (pk_cons (pe_ix ix_tup (pv 5) pe_int (fun _ _ => rfl)) (pk_cons (pe_ix ix_tup (pv 5) pe_int (fun _ _ => rfl)) (pk_cons (pe_callTy call_tuple_of (by rfl) T_.tuple (by decide +kernel) (pa_cons (pe_ix ix_tup (pv 5) pe_int (fun _ _ => rfl)) pa_nil)) (pk_cons (pe_callTy call_tuple_of (by rfl) T_.tuple (by decide +kernel) (pa_cons (pe_ix ix_tup (pv 5) pe_int (fun _ _ => rfl)) pa_nil)) (pk_cons (pe_ix ix_tup (pv 5) pe_int (fun _ _ => rfl)) pk_nil)))))))
    (pss_cons (ps_if (PW.pt (pw_or (pt_cmpR (op_neT O Z (hr.mono (by decide))) (pv 8) (pv 6) (nomark _)) (pw_or (pt_cmpR op_ne (pe_methK0 (pv 8) R.cl MB FB (hr.mono (by decide)) kB pass0 (pk_cons pe_int pk_nil)) (pe_mth R.cl o_by (hr.mono (by decide)) (pv 6) (pa_cons pe_int pa_nil)) (nomark _)) (pw_or1 (pt_cmpR (op_eqT O Z (hr.mono (by decide))) (pv 6) (pe_tup (pa_cons (pe_fld (pv 6) rfl) (pa_cons (pe_fld (pv 6) rfl) pa_nil))) (nomark _))))))
      (pss_one (ps_ret pe_bl))
      pss_nil)
    (pss_one (ps_expr (pe_bm PySem.F.plainAttrs_list PySem.F.slot_list_append PySem.F.type_list_append mt_append (pv 3) (pa_cons (pe_tup (pa_cons (pv 5) (pa_cons (pv 6) pa_nil))) pa_nil)))))))))) ?_
  rintro D σ H ⟨b, L, H0, z0, z1, z4, z5, z6, z7, z8, z9, z10, ws, rfl, S, hl, go⟩
  have hL := S.at_
  refine ⟨_, rfl, b, rfl, S.box, fun H1 v u f a t m D1 bx1 b1 nw dv => ?_⟩
  have S1 := S.bx bx1 b1
  have K1 := drawn_known D1
  have lf := K1.lf
  have la := K1.la
  have t1 := K1.t1
  have m1 := K1.m1
  have dv1 : Dv H1 v (rawD u f a t m) := dv.same off_same
  have fr1 : Dv (fz b L H1) v (rawD u f a t m) := by
    obtain ⟨x, y, z, _, eb⟩ := id S.box
    obtain ⟨x1, y1, z1, _, eb1⟩ := id b1
    exact raw_keep (fz_keep eb1 S1.at_) (fun c xs n e => fz_at (fun q => by rw [q, hL] at n; cases n) (fun q => by rw [q, eb] at n; cases n) e) nw dv1 (by omega) (by omega)
  refine ⟨_, rfl, made_of dv1 (by omega) (by omega) (K1.word _ _ rfl rfl rfl rfl) fun H2 p f' a' t' m' s2 np M T1 => ?_⟩
  have b2 := b1.same s2
  refine ⟨_, rfl, _, rfl, b, v, u, f, a, t, m, rfl, b2, dv.same (off_off s2), by omega, by omega, K1.t0, K1.t1, K1.m0, K1.m1, fun H3 v2 f2 a2 t2 m2 O2 bx3 b3 dv3 => ?_⟩
  obtain ⟨⟨lf2, la2, w2⟩, one2⟩ := K1.other _ _ _ _ O2
  refine made_of (dv3.same off_same) (by omega) (by omega) w2 fun H4 p2 f3 a3 t3 m3 s4 np2 M3 T3 => ?_
  obtain ⟨x1, x2, x3, x4⟩ := one2 _ _ _ _ _ _ _ _ M M3
  rw [x1, x2, x3, x4] at T3
  clear one2 x1 x2 x3 x4 M3
  refine ⟨Nat.le_of_ble_eq_true rfl, fun q nq => ?_⟩
  generalize hq : upd H4 q _ = H5
  obtain ⟨s5, e5⟩ := new_facts nq hq
  clear hq
  refine ⟨q, _, rfl, SqT.of e5, rfl, _, _, rfl, _, _, rfl, rfl, ?_⟩
  have bx25 := bx3.trans (Bx.of (s4.trans s5))
  have bx15 := (Bx.of s2).trans bx25
  have b5 := (b3.same s4).same s5
  have S5 := S1.bx bx15 b5
  have T5 := T1.keep (bx_keep b2 bx25)
  have U5 := T3.same s5
  have fr5 := fr1.same (off_off (off_bx bx15))
  obtain ⟨ok, tl⟩ := K1.made _ _ _ _ M
  have l1 := ok.lf
  have l2 := ok.la
  clear S1 fr1 T1 T3 s4 s5 bx3 bx25 bx15 b3 b2 dv dv3 dv1 w2 O2 nw bx1 b1 s2 S hL e5
  have dv5 := fr5.same fz_same
  refine ⟨_, rfl, _, rfl, v, p, u, f, f', a, a', t, m, t', m', rfl, dv5, T5, ok, by omega, by omega, K1.t0, by omega, K1.m0, by omega, tl, fun H6 s6 => ?_⟩
  refine ⟨true, rfl, ?_⟩
  refine iteF ?_
  refine ⟨_, rfl, _, rfl, rd_neTal Z (T5.same s6) (U5.same s6) (by omega) (by omega) (by omega) (by omega) ⟨_, rfl, ?_⟩⟩
  rw [talE_rfl]
  refine iteF ?_
  have T6 := T5.same s6
  have U6 := U5.same s6
  have S6 := S5.to s6
  have b6 := S6.box
  have fr6 := fr5.same (off_off (off_off s6))
  have dv6 := dv5.same s6
  clear T5 U5 S5 fr5 dv5 s6 b5
  obtain ⟨dx, pf, pa, xf, xa, h1, h2, h3, h4, h5⟩ := id T6
  obtain ⟨dy, qf, qa, yf, ya, g1, g2, g3, g4, g5⟩ := id U6
  obtain ⟨r, rf, ra, wf, wa, rfl, er, e1, k1, e2, k2⟩ := dv6.rawE
  have ltu : (talF u pf pa t' m').lookup ("under" : Str) = some (cV u) := rfl
  have ltf : (talF u pf pa t' m').lookup ("first" : Str) = some (.ref pf) := rfl
  have lta : (talF u pf pa t' m').lookup ("again" : Str) = some (.ref pa) := rfl
  have gtf : (talF u qf qa t' m').lookup ("first" : Str) = some (.ref qf) := rfl
  have gta : (talF u qf qa t' m').lookup ("again" : Str) = some (.ref qa) := rfl
  obtain ⟨tu, tf, ta⟩ := drawn_few D1
  obtain ⟨ff, fa'⟩ := made_few M tf ta
  obtain ⟨sh, nd, de, le⟩ := parts_shows tu ff fa' l1 l2
  refine ⟨_, rfl, p, C, dx, _, _, rfl, h1, R.cl, R.nF, ltf, ?_⟩
  refine ⟨_, rfl, p, C, dx, _, _, rfl, h1, R.cl, R.nA, lta, ?_⟩
  refine ⟨_, rfl, p, C, dx, _, _, rfl, h1, R.cl, R.nU, ltu, ?_⟩
  refine ⟨Nat.le_of_ble_eq_true rfl, fun q1 n1 => ?_⟩
  generalize hq : upd H6 q1 _ = H7
  obtain ⟨s7, e7⟩ := new_facts n1 hq
  clear hq
  have dp1 : Dv H7 (.ref q1) (partsD u f' a') := .tup e7 (.cons (.tup (s7 _ _ h2) (h3.same s7) (by rw [List.length_map]; omega)) (.cons (.tup (s7 _ _ h4) (h5.same s7) (by rw [List.length_map]; omega)) (.cons (cV_dv u) .nil))) (by show 3 ≤ 2000; decide)
  refine ⟨q1, partsD u f' a', rfl, dp1.dp, sh, nd, de, le, ?_⟩
  refine ⟨_, rfl, p2, C, dy, _, _, rfl, s7 _ _ g1, R.cl, R.nF, gtf, ?_⟩
  refine ⟨_, rfl, p2, C, dy, _, _, rfl, s7 _ _ g1, R.cl, R.nA, gta, ?_⟩
  refine ⟨_, rfl, r, _, 0, _, rfl, rfl, SqT.of (s7 _ _ er), atI_nat (j := 0) rfl, ?_⟩
  refine ⟨Nat.le_of_ble_eq_true rfl, fun q2 n2 => ?_⟩
  generalize hq : upd H7 q2 _ = H8
  obtain ⟨s8, e8⟩ := new_facts n2 hq
  clear hq
  have s68 := s7.trans s8
  have dp2 : Dv H8 (.ref q2) (partsD u f' a') := .tup e8 (.cons (.tup (s68 _ _ g2) (g3.same s68) (by rw [List.length_map]; omega)) (.cons (.tup (s68 _ _ g4) (g5.same s68) (by rw [List.length_map]; omega)) (.cons (cV_dv u) .nil))) (by show 3 ≤ 2000; decide)
  refine ⟨q2, partsD u f' a', rfl, dp2.dp, sh, nd, de, le, rfl, _, rfl, ?_⟩
  rw [decide_eq_true rfl]
  refine iteF ?_
  clear dp1 dp2 e7 e8 g1 g2 g3 g4 g5 gtf gta sh nd de le ff fa' tu tf ta h1 h2 h3 h4 h5 ltu ltf lta U6 n1 n2
  have T8 := T6.same s68
  have S8 := S6.to s68
  have fr8 := fr6.same (off_off (off_off s68))
  have er8 := s68 _ _ er
  have e18 := s68 _ _ e1
  have k18 := k1.same s68
  have e28 := s68 _ _ e2
  have k28 := k2.same s68
  clear T6 S6 fr6 dv6 s7 s8 s68 er e1 k1 e2 k2 b6
  dsimp only [tNil]
  refine ⟨_, rfl, r, _, 4, _, rfl, rfl, SqT.of er8, atI_nat (j := 4) rfl, ?_⟩
  refine ⟨_, rfl, r, _, 3, _, rfl, rfl, SqT.of er8, atI_nat (j := 3) rfl, ?_⟩
  refine ⟨_, rfl, r, _, 2, _, rfl, rfl, SqT.of er8, atI_nat (j := 2) rfl, ra, wa, rfl, Or.inl ⟨SqL.of e28, fun q3 n3 => ?_⟩⟩
  generalize hq : upd H8 q3 _ = H9
  obtain ⟨s9, e9⟩ := new_facts n3 hq
  clear hq
  refine ⟨_, rfl, r, _, 1, _, rfl, rfl, SqT.of (s9 _ _ er8), atI_nat (j := 1) rfl, rf, wf, rfl, Or.inl ⟨SqL.of (s9 _ _ e18), fun q4 n4 => ?_⟩⟩
  generalize hq : upd H9 q4 _ = H10
  obtain ⟨s10, e10⟩ := new_facts n4 hq
  clear hq
  have s810 := s9.trans s10
  refine ⟨_, rfl, r, _, 0, _, rfl, rfl, SqT.of (s810 _ _ er8), atI_nat (j := 0) rfl, ?_⟩
  refine ⟨rfl, rfl, fun x dz nx ndx nex => ?_⟩
  show spInitT _ _ [.ref x, cV u, .ref q4, .ref q3, .int t, .int m] _ _ _
  refine rd_initQ (H := H10) (d0 := cD u) (d1 := .tuple (f.map stD)) (d2 := .tuple (a.map siD)) (d3 := .int t) (d4 := .int m) (cV_dv u) (.tup e10 (k18.same s810) (by rw [List.length_map]; omega)) (.tup (s10 _ _ e9) (k28.same s810) (by rw [List.length_map]; omega)) (.int t) (.int m) (K1.word _ _ rfl rfl rfl rfl) ?_ ?_ (fun H11 f4 a4 t4 m4 s11 M4 T11 => ⟨rfl, ?_⟩) nx ndx nex
  · show (f.map stD).length ≤ 1000
    rw [List.length_map]
    omega
  · show (a.map siD).length ≤ 1000
    rw [List.length_map]
    omega
  have M4' : MadeT ((f.map stD).map stO) (((a.map siD).map stO).map dn) t m f4 a4 t4 m4 := M4
  rw [stOs, as_back] at M4'
  rw [c_back] at T11
  obtain ⟨x1, x2, x3, x4⟩ := made_one D1 M M4'
  rw [x1, x2, x3, x4] at T11
  clear M4 M4' x1 x2 x3 x4
  have s811 := s810.trans s11
  have Z11 := T8.same s811
  have S11 := S8.to s811
  have fr11 := fr8.same (off_off (off_off s811))
  clear T8 S8 fr8 er8 e18 k18 e28 k28 s9 s10 s11 s810 s811 nx ndx nex e9 e10 n3 n4
  refine ⟨_, rfl, _, rfl, rd_neTal Z T11 Z11 (by omega) (by omega) (by omega) (by omega) ⟨_, rfl, ?_⟩⟩
  rw [talE_rfl]
  refine iteF ?_
  obtain ⟨dz2, zf, za, yf2, ya2, hz1, _⟩ := id T11
  obtain ⟨dx, pf, pa, xf, xa, h1, h2, h3, h4, h5⟩ := id Z11
  refine ⟨_, rfl, x, dz2, _, rfl, hz1, rfl, ?_⟩
  refine ⟨rfl, x, u, f', a', t', m', 5, rfl, T11, ok, fun H12 v5 s12 tv => ?_⟩
  refine ⟨_, rfl, p, dx, _, rfl, s12 _ _ h1, rfl, p, u, f', a', t', m', 5, rfl, Z11.same s12, ok, fun H13 w5 s13 tw => ?_⟩
  have big5 : BigT 5 := ⟨by decide, by decide⟩
  have ev := (tl.same 5 v5 big5 tv).1
  have ew := (tl.same 5 w5 big5 tw).1
  refine ⟨by rw [ev, ew]; cases atL u f a t m 5 <;> rfl, _, rfl, ?_⟩
  rw [ev, ew, decide_eq_true rfl]
  refine iteF ?_
  have s1113 := s12.trans s13
  have Z13 := Z11.same s1113
  have h113 := s1113 _ _ h1
  have ltu : (talF u pf pa t' m').lookup ("under" : Str) = some (cV u) := rfl
  have ltf : (talF u pf pa t' m').lookup ("first" : Str) = some (.ref pf) := rfl
  refine ⟨_, rfl, _, rfl, p, C, dx, _, _, rfl, h113, R.cl, R.nU, ltu, _, rfl, p, C, dx, _, _, rfl, h113, R.cl, R.nF, ltf, ?_⟩
  refine ⟨Nat.le_of_ble_eq_true rfl, fun q5 n5 => ?_⟩
  generalize hq : upd H13 q5 _ = H14
  obtain ⟨s14, e14⟩ := new_facts n5 hq
  clear hq
  refine rd_eqTup Z (Z13.same s14) e14 (by omega) (by omega) ⟨false, rfl, ?_⟩
  refine iteF ?_
  have s1114 := s1113.trans s14
  have Z14 := Z11.same s1114
  have S14 := S11.to s1114
  have fr14 := fr11.same (off_off (off_off s1114))
  clear s14 e14 Z13 h113 tv tw ev ew hz1 T11 Z11 S11 fr11 s1113 s1114 s12 s13 h1 h2 h3 h4 h5
  refine ⟨_, rfl, Or.inl ⟨rfl, _, SqL.of S14.at_⟩, _, rfl, _, rfl, Nat.le_of_ble_eq_true rfl, fun q6 n6 => ?_⟩
  generalize hq : upd H14 q6 _ = H15
  obtain ⟨s15, e15⟩ := new_facts n6 hq
  clear hq
  have S15 := S14.to s15
  have fr15 := fr14.same (off_off (off_off s15))
  have Z15 := Z14.same s15
  refine ⟨L, ws, _, rfl, rfl, S15.at_, small2000 (by omega), ?_⟩
  obtain ⟨x1, y1, w1, _, eb⟩ := id S15.box
  exact go _ _ _ _ _ _ (S15.put ⟨q6, .ref r, p, u, f, a, t, m, f', a', t', m', rfl, fz_at (fun z => by rw [z, S14.at_] at n6; cases n6) (S14.box.ne n6) e15, fr15, Z15.keep (fz_keep eb S15.at_), D1, M⟩)
end
end My

namespace My
open PySem PySem.Spec PyProof.Rows L2
local macro_rules | `(tactic| walk_at "side") => `(tactic| first | (dsimp only; omega) | exact ⟨by omega, by omega⟩ | exact Or.inl ⟨by omega, by omega⟩ | exact Or.inr ⟨by omega, by omega⟩ | decide)
local macro_rules | `(tactic| walk_at "sq") => `(tactic| first | assumption | exact SqL.of (by assumption) | exact SqT.of (by assumption) | (refine L2.Same.seq (by assumption) ?_; walk_at "sq") | (refine L2.Same.seqT (by assumption) ?_; walk_at "sq") | exact Or.inl (by walk_at "sq") | exact Or.inr (by walk_at "sq"))
local macro_rules | `(tactic| walk_at "1") => `(tactic| first
  | refine ⟨_, rfl, iteT ?_⟩
  | refine ⟨_, rfl, iteF ?_⟩
  | refine ⟨_, rfl, ?_⟩
  | refine ⟨_, _, rfl, rfl, (by walk_at "side"), ?_⟩
  | refine ⟨_, _, rfl, rfl, ?_⟩
  | refine ⟨_, _, _, _, true, rfl, .ty _, .base (.int _), kit_ty (a := "int") (by decide +kernel), ?_⟩
  | refine ⟨_, _, _, _, false, rfl, .ty _, .base (.int _), kit_ty (a := "int") (by decide +kernel), ?_⟩
  | refine ⟨_, _, rfl, (by walk_at "sq"), ?_⟩
  | refine ⟨_, _, _, _, rfl, rfl, (by walk_at "sq"), (by first | rfl | assumption), ?_⟩
  | refine Or.inl ⟨_, _, _, _, rfl, rfl, (by walk_at "sq"), (by first | rfl | assumption), ?_⟩
  | refine Or.inr (Or.inl ⟨_, _, _, _, rfl, rfl, (by walk_at "sq"), (by first | rfl | assumption), ?_⟩)
  | refine ⟨_, _, rfl, Or.inl ⟨(by walk_at "sq"), ?_⟩⟩
  | refine ⟨rfl, ?_⟩
  | refine iteT ?_
  | refine iteF ?_
  | refine ⟨_, _, _, _, _, rfl, (by assumption), (by assumption), (by assumption), (by assumption), ?_⟩
  | refine Or.inl ⟨_, rfl, ?_⟩
  | refine Or.inr ⟨_, rfl, ?_⟩
  | refine ⟨_, _, rfl, (by walk_at "side"), ?_⟩
  | refine ⟨_, _, rfl, ?_⟩)
local macro_rules | `(tactic| walk_at "fld") => `(tactic| skip)
local macro_rules | `(tactic| walk_at "s") => `(tactic| repeat walk_at "1")
local macro_rules | `(tactic| walk_at "size") => `(tactic| first | exact Nat.le_of_ble_eq_true rfl | (simp only [List.length_map, List.length_append, List.length_cons, List.length_nil]; omega))
local macro_rules | `(tactic| walk_at "new") => `(tactic| (first | refine ⟨(by walk_at "size"), fun p hp => ?_⟩ | refine fun p hp => ?_); (generalize hq : upd _ p _ = H1); (obtain ⟨s, e⟩ := new_facts hp hq); clear hq)
/-! the law: all pairs -/
theorem inV_bls {g : Nat → Bool} {n : Nat} : (!inV (.bl false) ((List.range n).map fun j => V.bl (g j))) = (List.range n).all g := by
  unfold inV
  rw [List.any_map, List.all_eq_not_any_not]
  congr 1
  congr 1
  funext j
  show (g j == false) = !g j
  cases g j <;> rfl
theorem flats_bls {g : Nat → Bool} {n : Nat} : ((List.range n).map fun j => V.bl (g j)).all flatV = true := by
  rw [List.all_map, List.all_eq_true]
  exact fun _ _ => rfl
section
variable {P : Program} {w : World} {K : PySem.W.Frag} {mg : Str → Option Value} {base : Heap} {C D : Addr} {fa : Addr} {cdv : Value} {A : Around} {outer : List Env} {s : Shared} {H : Hp} {E : XK}
def tInner (C : Addr) : TS := fun D σ H => ∃ (z0 z1 z2 z3 z4 z8 z10 : Option V) (v : V) (p : Addr) (u : Option Int) (f : List Stp) (a : List Sti) (t m : Int) (f' : List Stp) (a' : List Sti) (t' m' : Int) (v2 : V) (p2 : Addr) (u2 : Option Int) (f2 : List Stp) (a2 : List Sti) (t2 m2 : Int) (f2' : List Stp) (a2' : List Sti) (t2' m2' : Int),
  σ = [z0, z1, z2, z3, z4, some v, some (.ref p), some v2, z8, some (.ref p2), z10, none] ∧ PairD C H v p u f a t m f' a' t' m' ∧ PairD C H v2 p2 u2 f2 a2 t2 m2 f2' a2' t2' m2' ∧ ∀ H' y10, Same H H' → D.nx [z0, z1, z2, z3, z4, some v, some (.ref p), some v2, z8, some (.ref p2), y10, none] H'
theorem rd_at {C : Addr} {H : Hp} {v : V} {p : Addr} {u : Option Int} {f : List Stp} {a : List Sti} {t m : Int} {f' : List Stp} {a' : List Sti} {t' m' time : Int} {Q : VK} {E : XK} (h : PairD C H v p u f a t m f' a' t' m') (k : ∀ H', Same H H' → Q (cV (atL u f a t m time)) H') : spAt [v, .int time] H Q E := by
  have K1 := drawn_known h.D
  have t1 := K1.t1
  have m1 := K1.m1
  have lf := K1.lf
  have la := K1.la
  exact ⟨v, u, f, a, t, m, time, rfl, h.d, fun ha => ((K1.made _ _ _ _ h.M).2.rate ha).1, K1.t0, by omega, K1.m0, by omega, by omega, by omega, k⟩
theorem scal_c (x y : Option Int) : scal (cV x) (cV y) = true := by cases x <;> cases y <;> rfl
theorem dec_c (x y : Option Int) : decide (cV x = cV y) = decide (x = y) := by
  cases x <;> cases y
  · rfl
  · rfl
  · rfl
  · rename_i i j
    by_cases e : i = j
    · subst e
      simp
    · rw [decide_eq_false (fun z => e (V.int.inj z) : ¬ cV (some i) = cV (some j)), decide_eq_false (fun z => e (Option.some.inj z))]
set_option maxHeartbeats 8000000 in
theorem blk_inner (T : Txt mg) (Z : TalEq K mg C) (O : EqT P w K mg base C) (o_law_at : Own P w K mg base "_law_at" 1 ["raw", "time"] spAt) (hr : Room 11 (A.deeper (envOfC "law" (defScope s_law) s.heap.objs.size fa cdv))) :
    PSs (cxOf CX0 P w K mg base ["script", "k", "box", "made_here", "turn", "raw", "made", "other", "zmade", "mate", "same", "time"] "law" (defScope s_law) fa cdv A outer s H E).nox (forBody (nth (forBody (nth kBody 2)) 0)) (tInner C) := by
  refine pss_pre (pss_cons (ps_setLc (i := 10) (own := [("time", 11)]) (g := gName 11) (tt := tYes) (te := tOp rEq (tCall spAt [] E0 (tCons (tVar 5) (tCons (tVar 11) tNil))) (tCall spAt [] E0 (tCons (tVar 7) (tCons (tVar 11) tNil)))) rfl sc_law.nd rfl rfl (sw_true rfl rfl rfl (by decide +kernel)) (pi_range2 (by rfl) T.range (pa_cons (pe_op op_sub pe_int pe_int) (pa_cons pe_int pa_nil))) (blkOk_by (own := [("time", 11)]) (N := ["script", "k", "box", "made_here", "turn", "raw", "made", "other", "zmade", "mate", "same", "time"]) (sc := defScope s_law) (by decide +kernel)) (fun _ _ _ _ _ => (pg_name (i := 11) sc_law.nd rfl (Or.inl rfl))) (fun _ _ _ _ _ => pts_nil) (fun _ _ _ _ _ => (pe_cmpR op_eq (pe_own o_law_at (hr.mono (by decide)) (pa_cons (pv 5) (pa_cons (pv 11) pa_nil))) (pe_own o_law_at (hr.mono (by decide)) (pa_cons (pv 7) (pa_cons (pv 11) pa_nil))) (nomark _))))
    (pss_one (ps_if (PW.pt (pw_or (pt_cmpR op_ne (pe_cmpR (op_eqT O Z (hr.mono (by decide))) (pv 6) (pv 9) (nomark _)) (pe_cmpR op_notIn_seq pe_bl (pv 10) (by rfl)) (nomark _)) (pw_or1 (pt_cmpR op_eq (pe_cmpR (op_neT O Z (hr.mono (by decide))) (pv 6) (pv 9) (nomark _)) (pe_cmpR (op_eqT O Z (hr.mono (by decide))) (pv 6) (pv 9) (nomark _)) (nomark _)))))
      (pss_one (ps_ret pe_bl))
      pss_nil))) ?_
  rintro D σ H ⟨z0, z1, z2, z3, z4, z8, z10, v, p, u, f, a, t, m, f', a', t', m', v2, p2, u2, f2, a2, t2, m2, f2', a2', t2', m2', rfl, P1, P2, go⟩
  obtain ⟨g, hg⟩ : ∃ g : Nat → Bool, g = fun j : Nat => decide (atL u f a t m (0 - 8 + (j : Int)) = atL u2 f2 a2 t2 m2 (0 - 8 + (j : Int))) := ⟨_, rfl⟩
  have like := pairs_like P1.D P1.M P2.D P2.M
  rw [← hg] at like
  refine ⟨_, _, rfl, rfl, _, _, rfl, ⟨by decide, by decide, by decide, by decide⟩, fun L nL => lc_range (n := 88) (fun i H' => Same H H' ∧ H' L = some (.lst ((List.range i).map fun j => V.bl (g j)))) ⟨same_upd nL, upd_same⟩ ?_ ?_⟩
  · rintro i H1 hi ⟨s1, e1⟩
    refine ⟨rfl, ?_⟩
    dsimp only [tYes]
    rw [if_pos rfl]
    refine ⟨_, rfl, _, rfl, ?_⟩
    dsimp only [tNil, List.append_nil]
    refine rd_at (P1.same s1) fun H2 s2 => ?_
    refine ⟨_, rfl, _, rfl, ?_⟩
    dsimp only [tNil, List.append_nil]
    refine rd_at (P2.same (s1.trans s2)) fun H3 s3 => ?_
    refine ⟨scal_c _ _, ?_⟩
    rw [dec_c]
    refine ⟨_, (s2.trans s3) _ _ e1, small2000 (by rw [List.length_map, List.length_range]; omega), ?_, ?_⟩
    · exact fun c o e => by
        rw [upd_ne (ne_of_none e nL)]
        exact (s1.trans (s2.trans s3)) c o e
    · rw [upd_same, List.range_succ, List.map_append, hg]
      rfl
  · rintro H1 ⟨s1, e1⟩
    have l1 := P1.len
    have l2 := P2.len
    have T1 := P1.ta.same s1
    have T2 := P2.ta.same s1
    refine ⟨_, rfl, _, rfl, rd_eqTal Z T1 T2 (by omega) (by omega) (by omega) (by omega) ?_⟩
    refine ⟨_, rfl, L, _, rfl, Or.inl (SqL.of e1), rfl, flats_bls, ?_⟩
    rw [like, if_pos rfl, inV_bls]
    refine ⟨rfl, _, rfl, ?_⟩
    rw [decide_eq_true rfl]
    refine iteF ?_
    refine ⟨_, rfl, _, rfl, rd_neTal Z T1 T2 (by omega) (by omega) (by omega) (by omega) ?_⟩
    refine ⟨_, rfl, _, rfl, rd_eqTal Z T1 T2 (by omega) (by omega) (by omega) (by omega) ?_⟩
    refine ⟨rfl, _, rfl, ?_⟩
    rw [show decide (V.bl (!talE u f' a' t' m' u2 f2' a2' t2' m2') = V.bl (talE u f' a' t' m' u2 f2' a2' t2' m2')) = false by cases talE u f' a' t' m' u2 f2' a2' t2' m2' <;> decide]
    refine iteF ?_
    exact go _ _ s1
end
end My

namespace My
open PySem PySem.Spec PyProof.Rows L2
local macro_rules | `(tactic| walk_at "side") => `(tactic| first | (dsimp only; omega) | exact ⟨by omega, by omega⟩ | exact Or.inl ⟨by omega, by omega⟩ | exact Or.inr ⟨by omega, by omega⟩ | decide)
local macro_rules | `(tactic| walk_at "sq") => `(tactic| first | assumption | exact SqL.of (by assumption) | exact SqT.of (by assumption) | (refine L2.Same.seq (by assumption) ?_; walk_at "sq") | (refine L2.Same.seqT (by assumption) ?_; walk_at "sq") | exact Or.inl (by walk_at "sq") | exact Or.inr (by walk_at "sq"))
local macro_rules | `(tactic| walk_at "1") => `(tactic| first
  | refine ⟨_, rfl, iteT ?_⟩
  | refine ⟨_, rfl, iteF ?_⟩
  | refine ⟨_, rfl, ?_⟩
  | refine ⟨_, _, rfl, rfl, (by walk_at "side"), ?_⟩
  | refine ⟨_, _, rfl, rfl, ?_⟩
  | refine ⟨_, _, _, _, true, rfl, .ty _, .base (.int _), kit_ty (a := "int") (by decide +kernel), ?_⟩
  | refine ⟨_, _, _, _, false, rfl, .ty _, .base (.int _), kit_ty (a := "int") (by decide +kernel), ?_⟩
  | refine ⟨_, _, rfl, (by walk_at "sq"), ?_⟩
  | refine ⟨_, _, _, _, rfl, rfl, (by walk_at "sq"), (by first | rfl | assumption), ?_⟩
  | refine Or.inl ⟨_, _, _, _, rfl, rfl, (by walk_at "sq"), (by first | rfl | assumption), ?_⟩
  | refine Or.inr (Or.inl ⟨_, _, _, _, rfl, rfl, (by walk_at "sq"), (by first | rfl | assumption), ?_⟩)
  | refine ⟨_, _, rfl, Or.inl ⟨(by walk_at "sq"), ?_⟩⟩
  | refine ⟨rfl, ?_⟩
  | refine iteT ?_
  | refine iteF ?_
  | refine ⟨_, _, _, _, _, rfl, (by assumption), (by assumption), (by assumption), (by assumption), ?_⟩
  | refine Or.inl ⟨_, rfl, ?_⟩
  | refine Or.inr ⟨_, rfl, ?_⟩
  | refine ⟨_, _, rfl, (by walk_at "side"), ?_⟩
  | refine ⟨_, _, rfl, ?_⟩)
local macro_rules | `(tactic| walk_at "fld") => `(tactic| skip)
local macro_rules | `(tactic| walk_at "s") => `(tactic| repeat walk_at "1")
local macro_rules | `(tactic| walk_at "size") => `(tactic| first | exact Nat.le_of_ble_eq_true rfl | (simp only [List.length_map, List.length_append, List.length_cons, List.length_nil]; omega))
local macro_rules | `(tactic| walk_at "new") => `(tactic| (first | refine ⟨(by walk_at "size"), fun p hp => ?_⟩ | refine fun p hp => ?_); (generalize hq : upd _ p _ = H1); (obtain ⟨s, e⟩ := new_facts hp hq); clear hq)
/-! the law: the loops over all pairs -/
section
variable {P : Program} {w : World} {K : PySem.W.Frag} {mg : Str → Option Value} {base : Heap} {C D : Addr} {fa : Addr} {cdv : Value} {A : Around} {outer : List Env} {s : Shared} {H : Hp} {E : XK}
def tPairs (C : Addr) (T : List (Addr × Str)) : TS := fun D σ H => ∃ b L H0 z0 z1 z4 z5 z6 z7 z8 z9 z10 ws, σ = [z0, z1, some (.ref b), some (.ref L), z4, z5, z6, z7, z8, z9, z10, none] ∧ Six C b L T H0 H ws ∧ ws.length ≤ 100 ∧
  ∀ H' y5 y6 y7 y9 y10, Six C b L T H0 H' ws → D.nx [z0, z1, some (.ref b), some (.ref L), z4, y5, y6, y7, z8, y9, y10, none] H'
set_option maxHeartbeats 8000000 in
theorem blk_pairs {T : List (Addr × Str)} (T_ : Txt mg) (Z : TalEq K mg C) (O : EqT P w K mg base C) (o_law_at : Own P w K mg base "_law_at" 1 ["raw", "time"] spAt) (hr : Room 11 (A.deeper (envOfC "law" (defScope s_law) s.heap.objs.size fa cdv))) :
    PS (cxOf CX0 P w K mg base ["script", "k", "box", "made_here", "turn", "raw", "made", "other", "zmade", "mate", "same", "time"] "law" (defScope s_law) fa cdv A outer s H E).nox (nth kBody 2) (tPairs C T) := by
  refine ps_pre (ps_for PassesOwn.never rfl (pi_list (pv 3)) (pg_tup (by rfl) (pgs_cons (pg_name (i := 5) sc_law.nd rfl (Or.inr rfl)) (pgs_cons (pg_name (i := 6) sc_law.nd rfl (Or.inl rfl)) pgs_nil)))
        (pss_one (ps_for PassesOwn.never rfl (pi_list (pv 3)) (pg_tup (by rfl) (pgs_cons (pg_name (i := 7) sc_law.nd rfl (Or.inr rfl)) (pgs_cons (pg_name (i := 9) sc_law.nd rfl (Or.inl rfl)) pgs_nil)))
            (blk_inner T_ Z O o_law_at hr)))) ?_
  rintro D σ H ⟨b, L, H0, z0, z1, z4, z5, z6, z7, z8, z9, z10, ws, rfl, S, hl, go⟩
  refine ⟨_, rfl, L, rfl, ⟨_, SqL.of S.at_⟩, for_seq (seqIt_l (SqL.of S.at_)) (fun i σ' H' => ∃ y5 y6 y7 y9 y10 : Option V, σ' = [z0, z1, some (.ref b), some (.ref L), z4, y5, y6, y7, z8, y9, y10, none] ∧ Same H H') ⟨z5, z6, z7, z9, z10, rfl, Same.refl _⟩ (fun i σ' H' ⟨_, _, _, _, _, _, e⟩ => e) ?_ ?_⟩
  · rintro i x σ' H1 hx ⟨y5, y6, y7, y9, y10, rfl, s1⟩
    obtain ⟨q, v, p, u, f, a, t, m, f', a', t', m', rfl, e, P1⟩ := S.all x (List.mem_of_getElem? hx)
    have P1 := P1.same (fz_same.trans s1)
    refine ⟨q, _, rfl, SqT.of (s1 _ _ (fz_same _ _ e)), rfl, _, _, rfl, _, _, rfl, rfl, ?_⟩
    have e1 := s1 _ _ S.at_
    refine ⟨_, rfl, L, rfl, ⟨_, SqL.of e1⟩, for_seq (seqIt_l (SqL.of e1)) (fun i σ' H' => ∃ y7 y9 y10 : Option V, σ' = [z0, z1, some (.ref b), some (.ref L), z4, some v, some (.ref p), y7, z8, y9, y10, none] ∧ Same H1 H') ⟨y7, y9, y10, rfl, Same.refl _⟩ (fun i σ' H' ⟨_, _, _, _, e⟩ => e) ?_ ?_⟩
    · rintro j y σ' H2 hy ⟨y7, y9, y10, rfl, s2⟩
      obtain ⟨q2, v2, p2, u2, f2, a2, t2, m2, f2', a2', t2', m2', rfl, e2, P2⟩ := S.all y (List.mem_of_getElem? hy)
      have s12 := s1.trans s2
      refine ⟨q2, _, rfl, SqT.of (s12 _ _ (fz_same _ _ e2)), rfl, _, _, rfl, _, _, rfl, rfl, ?_⟩
      refine ⟨z0, z1, some (.ref b), some (.ref L), z4, z8, y10, v, p, u, f, a, t, m, f', a', t', m', v2, p2, u2, f2, a2, t2, m2, f2', a2', t2', m2', rfl, P1.same s2, P2.same (fz_same.trans s12), fun H3 y10' s3 => ?_⟩
      exact ⟨_, _, _, rfl, s2.trans s3⟩
    · rintro σ' H2 ⟨y7, y9, y10, rfl, s2⟩
      exact ⟨_, _, _, _, _, rfl, s1.trans s2⟩
  · rintro σ' H1 ⟨y5, y6, y7, y9, y10, rfl, s1⟩
    exact go _ _ _ _ _ _ (S.to s1)
end
end My

namespace My
open PySem PySem.Spec PyProof.Rows L2
local macro_rules | `(tactic| walk_at "side") => `(tactic| first | (dsimp only; omega) | exact ⟨by omega, by omega⟩ | exact Or.inl ⟨by omega, by omega⟩ | exact Or.inr ⟨by omega, by omega⟩ | decide)
local macro_rules | `(tactic| walk_at "sq") => `(tactic| first | assumption | exact SqL.of (by assumption) | exact SqT.of (by assumption) | (refine L2.Same.seq (by assumption) ?_; walk_at "sq") | (refine L2.Same.seqT (by assumption) ?_; walk_at "sq") | exact Or.inl (by walk_at "sq") | exact Or.inr (by walk_at "sq"))
local macro_rules | `(tactic| walk_at "1") => `(tactic| first
  | refine ⟨_, rfl, iteT ?_⟩
  | refine ⟨_, rfl, iteF ?_⟩
  | refine ⟨_, rfl, ?_⟩
  | refine ⟨_, _, rfl, rfl, (by walk_at "side"), ?_⟩
  | refine ⟨_, _, rfl, rfl, ?_⟩
  | refine ⟨_, _, _, _, true, rfl, .ty _, .base (.int _), kit_ty (a := "int") (by decide +kernel), ?_⟩
  | refine ⟨_, _, _, _, false, rfl, .ty _, .base (.int _), kit_ty (a := "int") (by decide +kernel), ?_⟩
  | refine ⟨_, _, rfl, (by walk_at "sq"), ?_⟩
  | refine ⟨_, _, _, _, rfl, rfl, (by walk_at "sq"), (by first | rfl | assumption), ?_⟩
  | refine Or.inl ⟨_, _, _, _, rfl, rfl, (by walk_at "sq"), (by first | rfl | assumption), ?_⟩
  | refine Or.inr (Or.inl ⟨_, _, _, _, rfl, rfl, (by walk_at "sq"), (by first | rfl | assumption), ?_⟩)
  | refine ⟨_, _, rfl, Or.inl ⟨(by walk_at "sq"), ?_⟩⟩
  | refine ⟨rfl, ?_⟩
  | refine iteT ?_
  | refine iteF ?_
  | refine ⟨_, _, _, _, _, rfl, (by assumption), (by assumption), (by assumption), (by assumption), ?_⟩
  | refine Or.inl ⟨_, rfl, ?_⟩
  | refine Or.inr ⟨_, rfl, ?_⟩
  | refine ⟨_, _, rfl, (by walk_at "side"), ?_⟩
  | refine ⟨_, _, rfl, ?_⟩)
local macro_rules | `(tactic| walk_at "fld") => `(tactic| skip)
local macro_rules | `(tactic| walk_at "s") => `(tactic| repeat walk_at "1")
local macro_rules | `(tactic| walk_at "size") => `(tactic| first | exact Nat.le_of_ble_eq_true rfl | (simp only [List.length_map, List.length_append, List.length_cons, List.length_nil]; omega))
local macro_rules | `(tactic| walk_at "new") => `(tactic| (first | refine ⟨(by walk_at "size"), fun p hp => ?_⟩ | refine fun p hp => ?_); (generalize hq : upd _ p _ = H1); (obtain ⟨s, e⟩ := new_facts hp hq); clear hq)
/-! the law -/
section
variable {P : Program} {w : World} {K : PySem.W.Frag} {mg : Str → Option Value} {base : Heap} {C D : Addr}
def spLaw (K : PySem.W.Frag) (T : List (Addr × Str)) : Sp := fun vs H Q _ => ∃ (a : Addr) (ns : List Int), vs = [.ref a] ∧ SqL K H a (ns.map V.int) ∧ ns.length ≤ 63 ∧ LamX.Tabs T H ∧ ∀ H', Q (.bl true) H'
set_option maxHeartbeats 8000000 in
theorem ok_law {T : List (Addr × Str)} {fa : Addr} {fd : FuncData} (J : Fun K "law" "law" s_law fa fd) (F : Calls P w K mg base C D) (o_law_box : Own P w K mg base "_law_box" 1 ["script", "k"] (spBox K)) (o_law_at : Own P w K mg base "_law_at" 1 ["raw", "time"] spAt) (o_law_refused_right : Own P w K mg base "_law_refused_right" 11 ["box"] (spRefused T)) :
    MyG.FnG P w K mg base 12 fa fd ["script"] (spLaw K T) := by
  have T_ := F.T
  refine MyG.okG J sc_law (fun vs H Q E h => ?_) (fun cdv A outer s H vs Q E hr gd h => ?_)
  · obtain ⟨_, _, rfl, _⟩ := h
    rfl
  · obtain ⟨a, ns, rfl, hSq, hlen, hT, k⟩ := h
    refine ⟨_, (pss_cons (ps_for PassesOwn.never rfl (pi_range1 (by rfl) T_.range (pa_cons (pe_callB (call_max2 rfl) (by rfl) T_.max (by decide +kernel) (pa_cons pe_int (pa_cons (pe_callB (call_min2 rfl) (by rfl) T_.min (by decide +kernel) (pa_cons pe_int (pa_cons (pe_callB call_len_seq (by rfl) T_.len PySem.boot_len (pa_cons (pv 0) pa_nil)) pa_nil))) pa_nil))) pa_nil)) (pg_name (i := 1) sc_law.nd rfl (Or.inl rfl))
    (pss_cons (ps_par (i := 2) (j := 3) (by rfl) sc_law.nd rfl rfl (by decide) rfl rfl (pa_cons (pe_own o_law_box (hr.mono (by decide)) (pa_cons (pv 0) (pa_cons (pv 1) pa_nil))) (pa_cons (pe_lst pa_nil) pa_nil)) (by rfl))
      (pss_cons (ps_for PassesOwn.never rfl (pi_range1 (by rfl) T_.range (pa_cons pe_int pa_nil)) (pg_name (i := 4) sc_law.nd rfl (Or.inl rfl))
        (blk_turn (T := T) F hr gd))
      (pss_cons (blk_pairs (T := T) T_ F.Z F.O o_law_at hr)
      (pss_one (ps_if (pt_not (pt_val (pe_own o_law_refused_right (hr.mono (by decide)) (pa_cons (pv 2) pa_nil))))
        (pss_one (ps_ret pe_bl))
        pss_nil))))))
  (pss_one (ps_ret pe_bl))), ?_⟩
    refine ⟨_, rfl, a, _, rfl, Or.inl hSq, _, _, rfl, _, _, rfl, _, rfl, ?_⟩
    have hN : 1 ≤ (if (if ((ns.map V.int).length : Int) < 2 then ((ns.map V.int).length : Int) else 2) > 1 then (if ((ns.map V.int).length : Int) < 2 then ((ns.map V.int).length : Int) else 2) else 1) ∧ (if (if ((ns.map V.int).length : Int) < 2 then ((ns.map V.int).length : Int) else 2) > 1 then (if ((ns.map V.int).length : Int) < 2 then ((ns.map V.int).length : Int) else 2) else 1) ≤ 2 := by
      split <;> split at * <;> omega
    generalize (if (if ((ns.map V.int).length : Int) < 2 then ((ns.map V.int).length : Int) else 2) > 1 then (if ((ns.map V.int).length : Int) < 2 then ((ns.map V.int).length : Int) else 2) else 1) = N at hN ⊢
    refine ⟨by omega, by omega, for_range (lo := 0) (n := N.toNat) (fun i σ' H' => ∃ y1 y2 y3 y4 y5 y6 y7 y8 y9 y10, σ' = [some (.ref a), y1, y2, y3, y4, y5, y6, y7, y8, y9, y10, none] ∧ LamX.ExtN H H' ∧ LamX.Tabs T H') ⟨none, none, none, none, none, none, none, none, none, none, rfl, LamX.ExtN.refl H, hT⟩ ?_ ?_⟩
    · rintro i σ' H2 hi ⟨y1, y2, y3, y4, y5, y6, y7, y8, y9, y10, rfl, s2, t2⟩
      rw [Int.zero_add]
      refine ⟨_, rfl, _, rfl, a, ns, i, rfl, sql_ext s2 hSq, hlen, fun H3 b s3 nb hb => ⟨Nat.zero_le _, fun L nL => ⟨_, _, rfl, ?_⟩⟩⟩
      have nL2 : H2 L = none := s3.free nL
      generalize hq : upd H3 L _ = H4
      obtain ⟨s4, e4⟩ := new_facts nL hq
      clear hq
      have S4 : Six C b L T H2 H4 [] := ⟨s3.trans s4, nb, nL2, hb.ne nL, hb.same s4, t2.ext (s3.trans s4), e4, fun w hw => nomatch hw⟩
      refine ⟨6, rfl, by decide, by decide, for_range (lo := 0) (n := 6) (fun j σ' H' => ∃ z4 z5 z6 z7 z8 z9 z10 ws, σ' = [some (.ref a), some (.int (i : Nat)), some (.ref b), some (.ref L), z4, z5, z6, z7, z8, z9, z10, none] ∧ Six C b L T H2 H' ws ∧ ws.length = j) ⟨y4, y5, y6, y7, y8, y9, y10, [], rfl, S4, rfl⟩ ?_ ?_⟩
      · rintro j σ' H5 hj ⟨z4, z5, z6, z7, z8, z9, z10, ws, rfl, S5, hl⟩
        refine ⟨b, L, H2, some (.ref a), some (.int (i : Nat)), _, z5, z6, z7, z8, z9, z10, ws, rfl, S5, by omega, fun H6 u5 u6 u7 u8 w S6 => ?_⟩
        exact ⟨_, u5, u6, u7, u8, z9, z10, ws ++ [w], rfl, S6, by rw [List.length_append, List.length_singleton, hl]⟩
      · rintro σ' H5 ⟨z4, z5, z6, z7, z8, z9, z10, ws, rfl, S5, hl⟩
        refine ⟨b, L, H2, some (.ref a), some (.int (i : Nat)), z4, z5, z6, z7, z8, z9, z10, ws, rfl, S5, by omega, fun H6 u5 u6 u7 u9 u10 S6 => ?_⟩
        refine ⟨_, rfl, b, rfl, S6.box, S6.tabs, fun H7 bx7 b7 t7 => ⟨true, rfl, ?_⟩⟩
        refine iteF ?_
        exact ⟨_, _, _, z4, u5, u6, u7, z8, u9, u10, rfl, s2.trans (ext_bxn (LamX.ExtN.of S6.same) bx7 nb), t7⟩
    · rintro σ' H2 ⟨y1, y2, y3, y4, y5, y6, y7, y8, y9, y10, rfl, s2, t2⟩
      exact k H2
end
end My

/-! the theorem's head for a law's def that keeps a promise where no repr is under way -/
namespace MyG
open PySem PySem.Spec PyProof.Rows L2
/-- the heap in which nothing but the script is tracked, unless the script is the module's own -/
def heap0 (K : PySem.W.Frag) (a : Addr) (ob : Obj) (xs : List V) : Hp := fun b => if b = a ∧ K.lookup a = none then some (.frz ob (.lst xs)) else none
theorem heap0_some {K : PySem.W.Frag} {a b : Addr} {ob : Obj} {xs : List V} {u : HO} (h : heap0 K a ob xs b = some u) : b = a ∧ K.lookup a = none ∧ u = .frz ob (.lst xs) := by
  unfold heap0 at h
  split at h
  · rename_i c
    exact ⟨c.1, c.2, (Option.some.inj h).symm⟩
  · cases h
theorem heap0_only {K : PySem.W.Frag} {a : Addr} {ob : Obj} {xs : List V} : Only (heap0 K a ob xs) := fun b => by
  cases h : heap0 K a ob xs b with
  | none => exact .inl rfl
  | some u => exact .inr ⟨ob, xs, by rw [(heap0_some h).2.2]⟩
theorem head_call {P : Program} {w : World} {K : PySem.W.Frag} {mg mb : Str → Option Value} {k : Nat} {fa a : Addr} {fd : FuncData} {x : Str} {sp : Sp} {s₁ : Shared} {vs : List Value} {ns : List Int}
    (kin : K.In s₁.heap) (nm : s₁.heap.Ns mainGlobals mg) (nb : s₁.heap.Ns builtinsNs mb) (nbb : ∀ x : Str, x ≠ "__name__" → mb x = bootBuiltins x) (nl : s₁.heap.NoLimit) (gs : s₁.gens = #[])
    (lies : s₁.heap.get? a = some { cls := .type "list", data := .seq vs.toArray }) (are : IntsAre vs ns) (le : ns.length ≤ sizeLine) (room : Room k callerA)
    (F : ∀ base : Heap, K.In base → base.Ns mainGlobals mg → FnG P w K mg base k fa fd [x] sp) (bd : ∀ (s : Shared) (u : Value), BindsTo s fd ⟨[u], []⟩ [(x, u)])
    (pre : ∀ H : Hp, Only H → SqL K H a (ns.map V.int) → sp [.ref a] H (fun v _ => v = .bl true) fun _ _ _ => False) :
    codeAny (model P w) callerA (.call (.ref fa) ⟨[.ref a], []⟩) (fun r s' => r = .ok (.ret (.bool true)) ∧ OldK s₁.heap s'.heap ∧ s'.os = s₁.os ∧ AllBare s'.gens) s₁ := by
  have rv := vals_ints are
  obtain ⟨ob, eob⟩ : ∃ ob : Obj, ob = { cls := .type "list", data := .seq vs.toArray } := ⟨_, rfl⟩
  obtain ⟨H, eH⟩ : ∃ H : Hp, H = heap0 K a ob (ns.map V.int) := ⟨_, rfl⟩
  have some_ : ∀ {b u}, H b = some u → b = a ∧ K.lookup a = none ∧ u = .frz ob (.lst (ns.map V.int)) := fun {b u} h => heap0_some (eH ▸ h)
  have only : Only H := eH ▸ heap0_only
  have sq : SqL K H a (ns.map V.int) := by
    cases lk : K.lookup a with
    | some o =>
      have e := kin a o lk
      rw [lies] at e
      cases e
      exact .inr ⟨_, vs.toArray, _, lk, rfl, rfl, rfl, by rw [List.size_toArray, are.length]; exact le, by simpa using rv⟩
    | none => exact .inl (.inr ⟨ob, by rw [eH]; exact if_pos ⟨rfl, lk⟩⟩)
  have ok : HOk P w H s₁.heap := fun b u h => by
    obtain ⟨rfl, _, rfl⟩ := some_ h
    rw [eob]
    exact ⟨lies, by rw [List.length_map]; exact le, vs, _, rv, lies⟩
  have isK : ∀ b o, K.lookup b = some o → H b = none := fun b o e => by
    cases h : H b with
    | none => rfl
    | some u =>
      obtain ⟨rfl, n, _⟩ := some_ h
      rw [n] at e
      cases e
  have isD : ∀ {b : Addr} {o : Obj} {es : Array DictEntry} {ep : Nat}, s₁.heap.get? b = some o → o.data = .dict es ep → H b = none := fun {b o es ep} e d => by
    cases h : H b with
    | none => rfl
    | some u =>
      obtain ⟨rfl, _, _⟩ := some_ h
      rw [lies] at e
      cases e
      have d' : Data.seq vs.toArray _ = Data.dict es ep := d
      cases d'
  have ns_ : ∀ {b : Addr} {m : Str → Option Value}, s₁.heap.Ns b m → (hidT s₁.heap H).Ns b m := fun {b m} ⟨o, es, ep, e, d, r⟩ => ⟨o, es, ep, hidT_get e (isD e d), d, r⟩
  have kb : K.In (hidT s₁.heap H) := fun b o e => hidT_get (kin b o e) (isK b o e)
  obtain ⟨mc, l1, l2⟩ := nl
  have e0 : Env0 P w K mg (hidT s₁.heap H) callerA [] s₁ H := {
    frames := rfl
    mod := ⟨kb, ns_ nm, ⟨mb, ns_ nb, nbb⟩, mc, ns_ l1, l2⟩
    bs := fun b o e => of_hidT e
    bsz := Nat.le_of_eq (hidT_size _ _)
    funs := trivial
    frf := fun b hb => nomatch hb
    hok := ok
    bare := .of_eq gs }
  refine codeAny_mono ((F _ kb (ns_ nm)).run callerA [] s₁ H ⟨[.ref a], []⟩ [.ref a] [.ref a] _ _ room rfl e0 (bd s₁ (.ref a)) (.cons rfl .nil) (pre H only sq)) fun r s' h => ?_
  cases r with
  | error e => exact False.elim h
  | ok fl =>
    cases fl with
    | ret u =>
      obtain ⟨v, H', os, bare, un, ok', r', q⟩ := h
      obtain rfl : v = .bl true := q
      obtain rfl : u = Value.bool true := r'
      refine ⟨rfl, OldK.of_keep fun b o e => ?_, os, bare⟩
      cases h : H b with
      | none => exact un.keep b o e h (fun z => nomatch z) (fun z => nomatch z)
      | some y =>
        obtain ⟨rfl, _, rfl⟩ := some_ h
        have z2 := ok' _ _ (un.frzs _ ob _ h)
        rw [lies] at e
        cases e
        rw [eob] at z2
        exact z2.1
    | next => exact False.elim h
    | brk => exact False.elim h
    | cont => exact False.elim h
/-- as walk_of, for such a promise -/
theorem walk_G {l : PySem.W.OpenLaw} {n k : Nat} {q : Program} {loose : List Str} {XP : (Str → Option Value) → Heap → Prop} {YP : World → Heap → Prop} {d : DefRec} {K : Params → PySem.W.Frag} {sp : World → Sp} {x : Str}
    (most : l.most = some n) (small : n ≤ sizeLine) (nodef : d.params.defaults = []) (room : Room k callerA) (hY : ∀ (w : World) (h : Heap), YP w h → (K w.params).In h)
    (F : ∀ (w : World) (mg : Str → Option Value) (fa : Addr) (h : Heap), (K w.params).In h → h.Ns mainGlobals mg → mg d.name = some (.ref fa) → ∃ fd : FuncData, (∀ (s : Shared) (u : Value), BindsTo s fd ⟨[u], []⟩ [(x, u)]) ∧
      ∀ base : Heap, (K w.params).In base → base.Ns mainGlobals mg → FnG l.prog w (K w.params) mg base k fa fd [x] (sp w))
    (pre : ∀ (w : World) (H : Hp) (a : Addr) (ns : List Int), ns.length ≤ n → Only H → SqL (K w.params) H a (ns.map V.int) → sp w [.ref a] H (fun v _ => v = .bl true) fun _ _ _ => False) :
    PySem.W.WalkO q loose XP YP l.row.toRowW d [] (fun f vs => PySem.call f vs) :=
  Att.attach_call most nodef fun w s₀ s₁ mg mb fa o pm cd doc a vs ns G Y ho hd hcd hmg lies are le gs => by
    have KX := hY w _ Y
    obtain ⟨fd, bd, F1⟩ := F w mg fa _ KX G.T.g hmg
    exact head_call KX G.T.g G.T.b G.T.builtins G.T.nolimit gs lies are (Nat.le_trans le small) room F1 bd fun H o s => pre w H a ns le o s
end MyG

/-! the head as in K1/Head, where one def's table of code is tracked too -/
namespace MyG
open PySem PySem.Spec PyProof.Rows L2
/-- the start: the script, and one table without code -/
def heapT (K : PySem.W.Frag) (a : Addr) (ob : Obj) (xs : List V) (t : Addr) : Hp := fun b => if b = t then some (.tbl #[]) else heap0 K a ob xs b
section
variable {K : PySem.W.Frag} {a b t : Addr} {ob : Obj} {xs : List V} {u : HO}
theorem heapT_tab : heapT K a ob xs t t = some (.tbl #[]) := if_pos rfl
theorem heapT_ne (n : b ≠ t) : heapT K a ob xs t b = heap0 K a ob xs b := if_neg n
theorem heapT_some (h : heapT K a ob xs t b = some u) : (b = t ∧ u = .tbl #[]) ∨ (b ≠ t ∧ b = a ∧ K.lookup a = none ∧ u = .frz ob (.lst xs)) := by
  by_cases e : b = t
  · subst e
    rw [heapT_tab] at h
    exact .inl ⟨rfl, (Option.some.inj h).symm⟩
  · rw [heapT_ne e] at h
    exact .inr ⟨e, heap0_some h⟩
end
/-- what the def's table is before anything was called -/
structure TabAt (K : PySem.W.Frag) (mg : Str → Option Value) (h : Heap) (c t : Addr) : Prop where
  obj : h.get? t = some { cls := .none, data := .fields #[] }
  out : K.lookup t = none
  code : PySem.W.CodeHd h c t
  main : ∃ (bm : Addr) (ob : Obj), mg "__builtins__" = some (.ref bm) ∧ bm ≠ builtinsNs ∧ h.get? bm = some ob ∧ ob.cls = .type "module" ∧ ob.dict = some builtinsNs ∧ ob.data = .plain
theorem head_callT {P : Program} {w : World} {K : PySem.W.Frag} {mg mb : Str → Option Value} {k : Nat} {fa a c t : Addr} {fd : FuncData} {x : Str} {sp : Sp} {s₁ : Shared} {vs : List Value} {ns : List Int}
    (kin : K.In s₁.heap) (nm : s₁.heap.Ns mainGlobals mg) (nb : s₁.heap.Ns builtinsNs mb) (nbb : ∀ x : Str, x ≠ "__name__" → mb x = bootBuiltins x) (nl : s₁.heap.NoLimit) (gs : s₁.gens = #[]) (tab : TabAt K mg s₁.heap c t)
    (lies : s₁.heap.get? a = some { cls := .type "list", data := .seq vs.toArray }) (are : IntsAre vs ns) (le : ns.length ≤ sizeLine) (room : Room k callerA)
    (F : ∀ base : Heap, K.In base → base.Ns mainGlobals mg → LamX.TabB base mg c t → FnG P w K mg base k fa fd [x] sp) (bd : ∀ (s : Shared) (u : Value), BindsTo s fd ⟨[u], []⟩ [(x, u)])
    (pre : ∀ H : Hp, H t = some (.tbl #[]) → SqL K H a (ns.map V.int) → sp [.ref a] H (fun v _ => v = .bl true) fun _ _ _ => False) :
    codeAny (model P w) callerA (.call (.ref fa) ⟨[.ref a], []⟩) (fun r s' => r = .ok (.ret (.bool true)) ∧ OldK s₁.heap s'.heap ∧ s'.os = s₁.os ∧ AllBare s'.gens) s₁ := by
  have rv := vals_ints are
  have at_ : a ≠ t := fun z => by
    have e := tab.obj
    rw [← z, lies] at e
    have d : Data.seq vs.toArray _ = Data.fields #[] := congrArg Obj.data (Option.some.inj e)
    cases d
  obtain ⟨ob, eob⟩ : ∃ ob : Obj, ob = { cls := .type "list", data := .seq vs.toArray } := ⟨_, rfl⟩
  obtain ⟨H, eH⟩ : ∃ H : Hp, H = heapT K a ob (ns.map V.int) t := ⟨_, rfl⟩
  have tabH : H t = some (.tbl #[]) := by rw [eH]; exact heapT_tab
  have some_ : ∀ {b u}, H b = some u → (b = t ∧ u = .tbl #[]) ∨ (b ≠ t ∧ b = a ∧ K.lookup a = none ∧ u = .frz ob (.lst (ns.map V.int))) := fun {b u} h => heapT_some (eH ▸ h)
  have sq : SqL K H a (ns.map V.int) := by
    cases lk : K.lookup a with
    | some o =>
      have e := kin a o lk
      rw [lies] at e
      cases e
      exact .inr ⟨_, vs.toArray, _, lk, rfl, rfl, rfl, by rw [List.size_toArray, are.length]; exact le, by simpa using rv⟩
    | none =>
      refine .inl (.inr ⟨ob, ?_⟩)
      rw [eH, heapT_ne at_]
      exact if_pos ⟨rfl, lk⟩
  have ok : HOk P w H s₁.heap := fun b u h => by
    rcases some_ h with ⟨rfl, rfl⟩ | ⟨_, rfl, _, rfl⟩
    · exact tab.obj
    · rw [eob]
      exact ⟨lies, by rw [List.length_map]; exact le, vs, _, rv, lies⟩
  -- what is neither a list nor an empty table is not tracked
  have free : ∀ {b : Addr} {o : Obj}, s₁.heap.get? b = some o → (∀ us n, o.data ≠ .seq us n) → o.data ≠ .fields #[] → H b = none := fun {b o} e n1 n2 => by
    cases h : H b with
    | none => rfl
    | some u =>
      rcases some_ h with ⟨rfl, _⟩ | ⟨_, rfl, _, _⟩
      · rw [tab.obj] at e
        cases e
        exact (n2 rfl).elim
      · rw [lies] at e
        cases e
        exact (n1 _ _ rfl).elim
  have isK : ∀ b o, K.lookup b = some o → H b = none := fun b o e => by
    cases h : H b with
    | none => rfl
    | some u =>
      rcases some_ h with ⟨rfl, _⟩ | ⟨_, rfl, n, _⟩
      · rw [tab.out] at e
        cases e
      · rw [n] at e
        cases e
  have isD : ∀ {b : Addr} {o : Obj} {es : Array DictEntry} {ep : Nat}, s₁.heap.get? b = some o → o.data = .dict es ep → H b = none := fun {b o es ep} e d =>
    free e (fun us n z => by rw [d] at z; cases z) fun z => by rw [d] at z; cases z
  have ns_ : ∀ {b : Addr} {m : Str → Option Value}, s₁.heap.Ns b m → (hidT s₁.heap H).Ns b m := fun {b m} ⟨o, es, ep, e, d, r⟩ => ⟨o, es, ep, hidT_get e (isD e d), d, r⟩
  have kb : K.In (hidT s₁.heap H) := fun b o e => hidT_get (kin b o e) (isK b o e)
  obtain ⟨mc, l1, l2⟩ := nl
  have tb : LamX.TabB (hidT s₁.heap H) mg c t := by
    refine ⟨?_, ?_, fun z => ?_⟩
    · obtain ⟨o, us, file, tf, flags, tg, inF, text, tt, e, dc, d, r3, r⟩ := tab.code
      refine ⟨o, us, file, tf, flags, tg, inF, text, tt, hidT_get e (free e (fun _ _ z => ?_) fun z => ?_), dc, d, r3, r⟩
      · rw [d] at z
        cases z
      · rw [d] at z
        cases z
        simp at r3
    · obtain ⟨bm, o, b1, b2, b3, b4, b5, b6⟩ := tab.main
      have plain : ∀ {o' : Obj}, s₁.heap.get? bm = some o' → o'.data = .plain := fun e => by
        rw [b3] at e
        cases e
        exact b6
      refine ⟨bm, o, b1, b2, fun z => ?_, fun z => ?_, hidT_get b3 (free b3 (fun _ _ z => ?_) fun z => ?_), b4, b5, b6⟩
      · obtain ⟨o', es, ep, e, d, _⟩ := nm
        rw [← z] at e
        rw [plain e] at d
        cases d
      · have q := plain (z ▸ tab.obj)
        cases q
      · rw [b6] at z
        cases z
      · rw [b6] at z
        cases z
    · obtain ⟨o', es, ep, e, d, _⟩ := nm
      rw [z, tab.obj] at e
      cases e
      cases d
  have e0 : Env0 P w K mg (hidT s₁.heap H) callerA [] s₁ H := {
    frames := rfl
    mod := ⟨kb, ns_ nm, ⟨mb, ns_ nb, nbb⟩, mc, ns_ l1, l2⟩
    bs := fun b o e => of_hidT e
    bsz := Nat.le_of_eq (hidT_size _ _)
    funs := trivial
    frf := fun b hb => nomatch hb
    hok := ok
    bare := .of_eq gs }
  refine codeAny_mono ((F _ kb (ns_ nm) tb).run callerA [] s₁ H ⟨[.ref a], []⟩ [.ref a] [.ref a] _ _ room rfl e0 (bd s₁ (.ref a)) (.cons rfl .nil) (pre H tabH sq)) fun r s' h => ?_
  cases r with
  | error e => exact False.elim h
  | ok fl =>
    cases fl with
    | next => exact False.elim h
    | brk => exact False.elim h
    | cont => exact False.elim h
    | ret u =>
      obtain ⟨v, H', os, bare, un, ok', r', q⟩ := h
      obtain rfl : v = .bl true := q
      obtain rfl : u = Value.bool true := r'
      have others : ∀ b o, b ≠ t → s₁.heap.get? b = some o → s'.heap.get? b = some o := fun b o n e => by
        cases h : H b with
        | none => exact un.keep b o e h (fun z => nomatch z) (fun z => nomatch z)
        | some y =>
          rcases some_ h with ⟨z, _⟩ | ⟨_, rfl, _, rfl⟩
          · exact absurd z n
          · have z2 := ok' _ _ (un.frzs _ ob _ h)
            rw [lies] at e
            cases e
            rw [eob] at z2
            exact z2.1
      obtain ⟨more, hm⟩ := un.tbls t #[] tabH
      have grown := ok' t _ hm
      refine ⟨rfl, ⟨fun b o e => ?_, fun b o e => ?_⟩, os, bare⟩
      · by_cases z : b = t
        · rw [z, tab.obj] at e
          cases e
          exact .inr (.inl ⟨(z ▸ tab.code.tab tab.obj).isCodeTable, rfl, #[], more, rfl, by rw [z, grown, Array.empty_append]⟩)
        · exact .inl (others b o z e)
      · by_cases z : b = t
        · exact ⟨_, z ▸ grown⟩
        · exact ⟨o, others b o z e⟩
/-- as walk_G, with that table -/
theorem walk_GT {l : PySem.W.OpenLaw} {n k : Nat} {q : Program} {loose : List Str} {XP : (Str → Option Value) → Heap → Prop} {YP : World → Heap → Prop} {d e : DefRec} {K : Params → PySem.W.Frag} {x y : Str}
    (most : l.most = some n) (small : n ≤ sizeLine) (nodef : d.params.defaults = []) (room : Room k callerA) (hY : ∀ (w : World) (h : Heap), YP w h → (K w.params).In h) (told : (recsOf q).find? (fun e => e.name == y) = some e)
    (F : ∀ (w : World) (mg : Str → Option Value) (fa : Addr) (h : Heap), (K w.params).In h → h.Ns mainGlobals mg → mg d.name = some (.ref fa) → ∃ (fd : FuncData) (c t : Addr) (sp : Sp), (∀ (s : Shared) (u : Value), BindsTo s fd ⟨[u], []⟩ [(x, u)]) ∧ PySem.W.tabIn (K w.params) y = some (c, t) ∧ (K w.params).lookup t = none ∧
      (∀ (H : Hp) (a : Addr) (ns : List Int), ns.length ≤ n → H t = some (.tbl #[]) → SqL (K w.params) H a (ns.map V.int) → sp [.ref a] H (fun v _ => v = .bl true) fun _ _ _ => False) ∧
      ∀ base : Heap, (K w.params).In base → base.Ns mainGlobals mg → LamX.TabB base mg c t → FnG l.prog w (K w.params) mg base k fa fd [x] sp) :
    PySem.W.WalkO q loose XP YP l.row.toRowW d [] (fun f vs => PySem.call f vs) :=
  Att.attach_call most nodef fun w s₀ s₁ mg mb fa o pm cd doc a vs ns G Y ho hd hcd hmg lies are le gs => by
    have KX := hY w _ Y
    obtain ⟨fd, c, t, sp, bd, ti, out, pre, F1⟩ := F w mg fa _ KX G.T.g hmg
    obtain ⟨code, obj⟩ := PySem.W.tab_of G.T KX told ti
    exact head_callT KX G.T.g G.T.b G.T.builtins G.T.nolimit gs ⟨obj, out, code, G.T.bmain⟩ lies are (Nat.le_trans le small) room F1 bd fun H o s => pre H a ns le o s
/-- the table's place, put together from what is written of the def -/
theorem tab_mk {K : PySem.W.Frag} {y : Str} {f c t : Addr} {oc e : Value} {od dd : Option Addr} {fd : FuncData} {osl sl : Array (Option Value)} {vs : Array Value} (a : PySem.W.nsIn K mainGlobals y = some (some (.ref f))) (l : K.lookup f = some ⟨oc, od, .func fd, osl⟩) (g : fd.code = .ref c)
    (m : K.lookup c = some ⟨e, dd, .fields vs, sl⟩) (v : (vs[11]? : Option Value) = some (.ref t)) : PySem.W.tabIn K y = some (c, t) := by
  unfold PySem.W.tabIn
  rw [a]
  dsimp only
  rw [l]
  dsimp only
  rw [g]
  dsimp only
  rw [m]
  dsimp only
  rw [v]
end MyG

set_option linter.all false
namespace My
open PySem PySem.Spec PyProof.Rows L2
section
variable {K : PySem.W.Frag} {h : Heap} {mg : Str → Option Value}
theorem df_mk {x : Str} {st : Stmt} {ps : List Str} {f : Addr} {oc : Value} {od an : Option Addr} {osl : Array (Option Value)} {kV doc pm cdv ct : Value} (X : K.In h) (G : h.Ns mainGlobals mg)
    (a : PySem.W.nsIn K mainGlobals x = some (some (.ref f)))
    (l : K.lookup f = some ⟨oc, od, .func (PySem.W.fnOf x x (defArgs st) (defBody st) (defScope st) .none kV doc pm an cdv ct), osl⟩) (c : PySem.W.codeIn K cdv x = true) (k : PySem.W.keepIn K (.ref f) = true)
    (hb : ∀ (kV doc pm : Value) (an : Option Addr) (cdv ct : Value) (us : List Value), us.length = ps.length → bindArgs (PySem.W.fnOf x x (defArgs st) (defBody st) (defScope st) .none kV doc pm an cdv ct) ⟨us, []⟩ = pure (ps.zip us)) : Df K mg x st ps :=
  ⟨f, _, fun_mk l c k, PySem.W.mg_of X G a, (fun_mk l c k).binds hb⟩
/-- a method of the class -/
structure DfM (K : PySem.W.Frag) (C : Addr) (x qual : Str) (st : Stmt) (ps : List Str) : Prop where
  ex : ∃ f fd, Fun K x qual st f fd ∧ Meth K C x f ∧ Binds K fd ps []
theorem dfm_mk {C : Addr} {x qual : Str} {st : Stmt} {ps : List Str} {f : Addr} {oc : Value} {od an : Option Addr} {osl : Array (Option Value)} {kV doc pm cdv ct : Value}
    (a : PySem.W.findIn K (.ref C) x = some (some (.ref f))) (i : PySem.W.isFn K (.ref f) = true)
    (l : K.lookup f = some ⟨oc, od, .func (PySem.W.fnOf x qual (defArgs st) (defBody st) (defScope st) .none kV doc pm an cdv ct), osl⟩) (c : PySem.W.codeIn K cdv qual = true) (k : PySem.W.keepIn K (.ref f) = true)
    (hb : ∀ (kV doc pm : Value) (an : Option Addr) (cdv ct : Value) (us : List Value), us.length = ps.length → bindArgs (PySem.W.fnOf x qual (defArgs st) (defBody st) (defScope st) .none kV doc pm an cdv ct) ⟨us, []⟩ = pure (ps.zip us)) : DfM K C x qual st ps :=
  ⟨f, _, fun_mk l c k, ⟨a, i, k⟩, (fun_mk l c k).binds hb⟩
structure DfP (K : PySem.W.Frag) (C : Addr) (x qual : Str) (st : Stmt) (ps : List Str) : Prop where
  ex : ∃ p f fd, Fun K x qual st f fd ∧ PropOf K C x p f ∧ Binds K fd ps []
theorem dfp_mk {C p : Addr} {x qual : Str} {st : Stmt} {ps : List Str} {f : Addr} {rest : List Value} {oc : Value} {od an : Option Addr} {osl : Array (Option Value)} {kV doc pm cdv ct : Value}
    (a : PySem.W.findIn K (.ref C) x = some (some (.ref p))) (g : PySem.W.specialIn K (.ref p) "__get__" = some (some (.builtin "property.__get__"))) (t : PySem.W.takesIn K (.ref p) = some true) (r : PySem.W.recIn K p "property" = some (.ref f :: rest))
    (l : K.lookup f = some ⟨oc, od, .func (PySem.W.fnOf x qual (defArgs st) (defBody st) (defScope st) .none kV doc pm an cdv ct), osl⟩) (c : PySem.W.codeIn K cdv qual = true) (k : PySem.W.keepIn K (.ref f) = true)
    (hb : ∀ (kV doc pm : Value) (an : Option Addr) (cdv ct : Value) (us : List Value), us.length = ps.length → bindArgs (PySem.W.fnOf x qual (defArgs st) (defBody st) (defScope st) .none kV doc pm an cdv ct) ⟨us, []⟩ = pure (ps.zip us)) : DfP K C x qual st ps :=
  ⟨p, f, _, fun_mk l c k, ⟨a, g, t, rest, r⟩, (fun_mk l c k).binds hb⟩
/-- a def with its code object -/
theorem dfc_mk {x : Str} {st : Stmt} {ps : List Str} {f c : Addr} {oc : Value} {od an : Option Addr} {osl : Array (Option Value)} {kV doc pm ct : Value} (X : K.In h) (G : h.Ns mainGlobals mg)
    (a : PySem.W.nsIn K mainGlobals x = some (some (.ref f))) (l : K.lookup f = some ⟨oc, od, .func (PySem.W.fnOf x x (defArgs st) (defBody st) (defScope st) .none kV doc pm an (.ref c) ct), osl⟩) (cd : PySem.W.codeIn K (.ref c) x = true) (k : PySem.W.keepIn K (.ref f) = true)
    (hb : ∀ (kV doc pm : Value) (an : Option Addr) (cdv ct : Value) (us : List Value), us.length = ps.length → bindArgs (PySem.W.fnOf x x (defArgs st) (defBody st) (defScope st) .none kV doc pm an cdv ct) ⟨us, []⟩ = pure (ps.zip us)) : DfC K mg x st ps c :=
  ⟨f, oc, od, kV, doc, pm, an, ct, osl, l, cd, PySem.W.mg_of X G a, k, (fun_mk (st := st) l cd k).binds hb⟩
/-- the class of tallies with its __init__ -/
structure DfI (K : PySem.W.Frag) (mg : Str → Option Value) (C : Addr) : Prop where
  ex : ∃ f fd, Fun K "__init__" "Tally.__init__" s_Tally_init f fd ∧ Mk K C f ∧ mg "Tally" = some (.ref C) ∧ Binds K fd ["self", "under", "first", "again", "turn", "more"] []
theorem dfi_mk {C : Addr} {f : Addr} {oc : Value} {od an : Option Addr} {osl : Array (Option Value)} {kV doc pm cdv ct : Value} (X : K.In h) (G : h.Ns mainGlobals mg)
    (aC : PySem.W.nsIn K mainGlobals "Tally" = some (some (.ref C))) (a : PySem.W.findIn K (.ref C) "__init__" = some (some (.ref f))) (i : PySem.W.isFn K (.ref f) = true) (mk : PySem.W.makesIn K C = true) (kc : PySem.W.keepIn K (.ref C) = true)
    (l : K.lookup f = some ⟨oc, od, .func (PySem.W.fnOf "__init__" "Tally.__init__" (defArgs s_Tally_init) (defBody s_Tally_init) (defScope s_Tally_init) .none kV doc pm an cdv ct), osl⟩)
    (c : PySem.W.codeIn K cdv "Tally.__init__" = true) (k : PySem.W.keepIn K (.ref f) = true) : DfI K mg C :=
  ⟨f, _, fun_mk (st := s_Tally_init) l c k, ⟨mk, a, i, kc⟩, PySem.W.mg_of X G aC, (fun_mk (st := s_Tally_init) l c k).binds (fun _ _ _ _ _ _ us hl => match us, hl with | [_, _, _, _, _, _], _ => rfl)⟩
theorem rc_mk {C : Addr} (pg : PySem.W.plainGet K C Str.empty = true) (hd : PySem.W.hasDictIn K C = true) (po : PySem.W.plainOver K C = true) (sa : PySem.W.findIn K (.ref C) "__setattr__" = some (some (.builtin "object.__setattr__")))
    (n0 : PySem.W.findIn K (.ref C) "under" = some none) (n1 : PySem.W.findIn K (.ref C) "first" = some none) (n2 : PySem.W.findIn K (.ref C) "again" = some none) (n3 : PySem.W.findIn K (.ref C) "turn" = some none) (n4 : PySem.W.findIn K (.ref C) "more" = some none) : TalCls K C := ⟨⟨pg, hd, po, sa⟩, n0, n1, n2, n3, n4⟩
/-- the class of an error with its __init__ -/
structure DfE (K : PySem.W.Frag) (mg : Str → Option Value) (x f q : Str) (st : Stmt) (D : Addr) : Prop where
  ex : ∃ fI fd, OexC K D ∧ PySem.W.findIn K (.ref D) "__init__" = some (some (.ref fI)) ∧ PySem.W.typeIn K (.ref fI) = some (.type "function") ∧ Fun K "__init__" q st fI fd ∧ Binds K fd ["self", f] [] ∧ mg x = some (.ref D)
theorem dfe_mk {x fl qu : Str} {st : Stmt} {D W f : Addr} {nm q : Str} {N : Addr} {bs : List Value} {sn : List Str} {sub : List Value} {ab : Bool} {col : Option Bool} {dd : Option Addr} {k0 k1 k2 k3 k5 : Option Value} {oc : Value} {od an : Option Addr} {osl : Array (Option Value)} {kV doc pm cdv ct : Value} (X : K.In h) (G : h.Ns mainGlobals mg)
    (aD : PySem.W.nsIn K mainGlobals x = some (some (.ref D)))
    (xL : K.lookup D = some (excClassObj nm q D N bs [.ref W, .type "ValueError", .type "Exception", .type "BaseException", .type "object"] true sn sub ab col dd k0 k1 k2 k3 k5 "ValueError.__new__"))
    (sa : PySem.W.findIn K (.ref D) "__setattr__" = some (some (.builtin "object.__setattr__"))) (eC : PySem.W.subIn K (.ref D) (.type "BaseException") = some true) (tC : PySem.W.typeIn K (.ref D) = some (.type "type")) (kC : PySem.W.keepIn K (.ref D) = true)
    (a1 : PySem.W.findIn K (.ref D) "__init__" = some (some (.ref f))) (t1 : PySem.W.typeIn K (.ref f) = some (.type "function"))
    (l : K.lookup f = some ⟨oc, od, .func (PySem.W.fnOf "__init__" qu (defArgs st) (defBody st) (defScope st) .none kV doc pm an cdv ct), osl⟩) (c : PySem.W.codeIn K cdv qu = true) (k : PySem.W.keepIn K (.ref f) = true)
    (hb : ∀ (kV doc pm : Value) (an : Option Addr) (cdv ct : Value) (us : List Value), us.length = (["self", fl] : List Str).length → bindArgs (PySem.W.fnOf "__init__" qu (defArgs st) (defBody st) (defScope st) .none kV doc pm an cdv ct) ⟨us, []⟩ = pure ((["self", fl] : List Str).zip us)) : DfE K mg x fl qu st D :=
  ⟨f, _, ⟨⟨nm, q, N, bs, _, sn, sub, ab, col, dd, k0, k1, k2, k3, k5, xL, rfl⟩, sa, eC, tC, kC⟩, a1, t1, fun_mk l c k, (fun_mk (st := st) l c k).binds hb, PySem.W.mg_of X G aD⟩
/-- the class of an error, as it is heard -/
structure EfC (K : PySem.W.Frag) (D : Addr) (f : Str) : Prop where
  X : ExcC K D
  nw : PySem.W.findIn K (.ref D) f = some none
  hs : PySem.W.subIn K (.ref D) (.type "BaseException") = some true
  hd : PySem.W.hasDictIn K D = true
  ty : PySem.W.typeIn K (.ref D) = some (.type "type")
theorem ef_mk {D : Addr} {f : Str} (hg : PySem.W.findIn K (.ref D) "__getattribute__" = some (some (.builtin "BaseException.__getattribute__"))) (hk : PySem.W.findIn K (.ref D) "__getattr__" = some none)
    (hs : PySem.W.subIn K (.ref D) (.type "BaseException") = some true) (hd : PySem.W.hasDictIn K D = true) (ha : PySem.W.findIn K (.ref D) "__class__" = some (some (.builtin "object.__class__")))
    (hn : PySem.W.specialIn K (.builtin "object.__class__") "__get__" = some (some (.builtin "getset_descriptor.__get__"))) (ht : PySem.W.takesIn K (.builtin "object.__class__") = some true) (hm : PySem.W.mroIn K D (.type "object") = some true)
    (nw : PySem.W.findIn K (.ref D) f = some none) (ty : PySem.W.typeIn K (.ref D) = some (.type "type")) : EfC K D f := ⟨⟨hg, hk, hs, hd, ha, hn, ht, hm⟩, nw, hs, hd, ty⟩
theorem EfC.exm {D : Addr} {f : Str} {cls : Value} {b : Bool} (h : EfC K D f) (s : PySem.W.subIn K cls (.ref D) = some b) : PySem.W.exmOne K cls (.ref D) = some b := PySem.W.exm_ref h.hs h.hd h.ty s
theorem kit_no {D M : Addr} (sD : PySem.W.subIn K (.ref D) (.ref D) = some true) (cM : PySem.W.isClsIn K M = true) (tM : PySem.W.typeIn K (.ref M) = some (.type "type")) (s : PySem.W.subIn K (.ref D) (.ref M) = some false) : PySem.W.kitOne K (.ref D) (.ref M) = some false := by
  have cM' : (PySem.W.clsIn K M).isSome = true := cM
  unfold PySem.W.kitOne
  rw [if_neg]
  · show (if ((PySem.W.clsIn K M).isSome && PySem.W.typeIn K (.ref M) == some (.type "type")) = true then PySem.W.subIn K (.ref D) (.ref M) else none) = some false
    rw [if_pos (by rw [cM', tM]; rfl)]
    exact s
  · intro q
    have e : D = M := Value.ref.inj (beq_iff_eq.mp q)
    subst e
    rw [sD] at s
    cases s
theorem kit_yes {D M : Addr} (cM : PySem.W.isClsIn K M = true) (tM : PySem.W.typeIn K (.ref M) = some (.type "type")) (s : PySem.W.subIn K (.ref D) (.ref M) = some true) : PySem.W.kitOne K (.ref D) (.ref M) = some true := by
  have cM' : (PySem.W.clsIn K M).isSome = true := cM
  unfold PySem.W.kitOne
  by_cases q : (Value.ref D == Value.ref M) = true
  · rw [if_pos q]
  · rw [if_neg q]
    show (if ((PySem.W.clsIn K M).isSome && PySem.W.typeIn K (.ref M) == some (.type "type")) = true then PySem.W.subIn K (.ref D) (.ref M) else none) = some true
    rw [if_pos (by rw [cM', tM]; rfl)]
    exact s
end
theorem sub_tyno {K : PySem.W.Frag} {C : Addr} {T : String} (e : fastBuiltinMro T = some [.type T, .type "object"]) : PySem.W.subIn K (.type T) (.ref C) = some false := by
  show (fastBuiltinMro T).map (·.contains (.ref C)) = some false
  rw [e]
  first
    | rfl
    | simp
theorem kit_tyno {K : PySem.W.Frag} {M : Addr} {T : String} (cM : PySem.W.isClsIn K M = true) (tM : PySem.W.typeIn K (.ref M) = some (.type "type")) (s : PySem.W.subIn K (.type T) (.ref M) = some false) : PySem.W.kitOne K (.type T) (.ref M) = some false := by
  have cM' : (PySem.W.clsIn K M).isSome = true := cM
  unfold PySem.W.kitOne
  rw [if_neg (fun q => by cases beq_iff_eq.mp q)]
  show (if ((PySem.W.clsIn K M).isSome && PySem.W.typeIn K (.ref M) == some (.type "type")) = true then PySem.W.subIn K (.type T) (.ref M) else none) = some false
  rw [if_pos (by rw [cM', tM]; rfl)]
  exact s
theorem kit_self {K : PySem.W.Frag} {M : Addr} : PySem.W.kitOne K (.ref M) (.ref M) = some true := by
  unfold PySem.W.kitOne
  rw [if_pos (by simp)]
theorem notFirst_ty {K : PySem.W.Frag} {C : Addr} {T : String} (e : fastBuiltinMro T = some [.type T, .type "object"]) : PySem.W.notFirst K C (.type T) = true := by
  unfold PySem.W.notFirst
  rw [sub_tyno e]
  simp
/-- the law, all that it calls put together -/
theorem all_ok {P : Program} {w : World} {K : PySem.W.Frag} {mg : Str → Option Value} {C D W IR c Pt fa : Addr} (disinteger : Df K mg "is_integer" s_is_integer ["value"]) (disnumber : Df K mg "is_number" s_is_number ["value"]) (dissequence : Df K mg "is_sequence" s_is_sequence ["value"]) (distupleof : Df K mg "is_tuple_of" s_is_tuple_of ["value", "many"]) (dinlowestterms : Df K mg "in_lowest_terms" s_in_lowest_terms ["top", "bottom"]) (dleastform : Df K mg "least_form" s_least_form ["first", "again", "turn", "more"]) (dmoved : Df K mg "_moved" s_moved ["steps", "lasts", "grow"]) (dshortestfirst : Df K mg "_shortest_first" s_shortest_first ["first", "again", "turn", "more"]) (dtoldby : Df K mg "told_by" s_told_by ["steps", "time"]) (dlastby : Df K mg "_last_by" s_last_by ["steps", "time"]) (dwrongargument : Df K mg "_wrong_argument" s_wrong_argument ["under", "first", "again", "turn", "more"]) (disstep : Df K mg "_is_step" s_is_step ["step"]) (disendlessstep : Df K mg "_is_endless_step" s_is_endless_step ["step"]) (drise : Df K mg "_rise" s_rise ["steps"]) (dlawbox : Df K mg "_law_box" s_law_box ["script", "k"]) (dlawtake : Df K mg "_law_take" s_law_take ["box", "many"]) (dlawpick : Df K mg "_law_pick" s_law_pick ["box", "some"]) (dlawsteps : Df K mg "_law_steps" s_law_steps ["box", "time", "count", "many"]) (dlawraw : Df K mg "_law_raw" s_law_raw ["box"]) (dlawat : Df K mg "_law_at" s_law_at ["raw", "time"]) (dlawmade : Df K mg "_law_made" s_law_made ["raw"]) (dlawdivisor : Df K mg "_law_divisor" s_law_divisor ["one", "other"]) (dlawlowest : Df K mg "_law_lowest" s_law_lowest ["upper", "lower"]) (dlawheard : Df K mg "_law_heard" s_law_heard ["work"]) (dlawotherwise : Df K mg "_law_otherwise" s_law_otherwise ["box", "raw"]) (dlawisleast : Df K mg "_law_is_least" s_law_is_least ["made"]) (dlawtoldright : Df K mg "_law_told_right" s_law_told_right ["raw", "made"]) (dlawwrong : Df K mg "_law_wrong" s_law_wrong ["box"]) (dRef : DfC K mg "_law_refused_right" s_law_refused_right ["box"] c) (dI : DfI K mg C) (dET : DfE K mg "InvalidTally" "word" "InvalidTally.__init__" s_IY_init D) (dP : DfP K C "rate" "Tally.rate" s_Tally_rate ["self"]) (mCby : DfM K C "by" "Tally.by" s_Tally_by ["self", "time"]) (mCeq : DfM K C "__eq__" "Tally.__eq__" s_Tally_eq ["self", "other"]) (tx : Txt mg) (gGc : mg "gcd" = some (.builtin "math.gcd")) (rc : TalCls K C) (gR : mg "Tally" = some (.ref C)) (gWa : mg "WaitError" = some (.ref W)) (gIR : mg "InvalidRow" = some (.ref IR)) (haC : PySem.W.findIn K (.ref C) "__class__" = some (some (.builtin "object.__class__"))) (hmC : PySem.W.mroIn K C (.type "object") = some true) (zneC : PySem.W.findIn K (.ref C) "__ne__" = some (some (.builtin "object.__ne__"))) (zhn : PySem.W.specialIn K (.builtin "object.__class__") "__get__" = some (some (.builtin "getset_descriptor.__get__"))) (zht : PySem.W.takesIn K (.builtin "object.__class__") = some true) (ic : PySem.W.isClsIn K C = true) (tc : PySem.W.typeIn K (.ref C) = some (.type "type")) (efD : EfC K D "word") (zbDD : PySem.W.subIn K (.ref D) (.ref D) = some true) (zbDW : PySem.W.subIn K (.ref D) (.ref W) = some true) (zbDI : PySem.W.subIn K (.ref D) (.ref IR) = some false) (cW : PySem.W.isClsIn K W = true) (tW : PySem.W.typeIn K (.ref W) = some (.type "type")) (cIR : PySem.W.isClsIn K IR = true) (tIR : PySem.W.typeIn K (.ref IR) = some (.type "type")) {fd : FuncData} (F : Fun K "law" "law" s_law fa fd) (base : Heap) (TB : LamX.TabB base mg c Pt) : MyG.FnG P w K mg base 12 fa fd ["script"] (spLaw K [(Pt, "_law_refused_right.<locals>.<lambda>")]) := by
  have T := tx
  have Z0 : TalEq K mg C := ⟨gR, fun H a dx fs h => .base (.ins h rc.cl haC zhn zht hmC), kit_self, kit_tyno ic tc (sub_tyno (by decide +kernel)), by unfold PySem.W.notFirst; simp, notFirst_ty (by decide +kernel), zneC, hmC⟩
  obtain ⟨fE, fdE, hE1, hE2, hE3, FE, hE4, gIT⟩ := dET.ex
  have ZH : HeardT K mg D W IR := ⟨efD.X, efD.nw, efD.exm zbDD, gIT, gWa, gIR, kit_yes cW tW zbDW, kit_no zbDD cIR tIR zbDI⟩
  have XE : ErrT P w K mg base D (spErr D) := ⟨fE, fdE, hE1, hE2, hE3, ok_err FE hE1 efD.nw, hE4, gIT⟩
  have o1 := ok_is_integer (P := P) (w := w) (base := base) disinteger T
  have o2 := ok_is_number disnumber o1
  have o3 := ok_is_sequence (P := P) (w := w) (base := base) dissequence T
  have o4 := ok_is_tuple_of (P := P) (w := w) (base := base) distupleof T
  have o5 := ok_is_step disstep o4 o1 o2
  have o6 := ok_is_endless_step disendlessstep o4 o1
  have o7 := ok_rise (P := P) (w := w) (base := base) drise T
  have oW := ok_wrong dwrongargument T o2 o3 o5 o6 o7
  have oM := ok_moved (P := P) (w := w) (base := base) dmoved
  have oS := ok_shortest_first dshortestfirst T oM
  have oL := ok_least_form dleastform T oM oS
  have oLb := ok_last_by (P := P) (w := w) (base := base) dlastby T
  have oTb := ok_told_by dtoldby T rc oLb
  have oLo := ok_low (P := P) (w := w) (base := base) dinlowestterms gGc
  obtain ⟨f1, fd1, F1, M1, mC, b1⟩ := dI.ex
  have G1 := ok_init F1 rc XE oW oL
  have oMk : TalMk P w K mg base C D := ⟨f1, fd1, G1, mC, M1, b1⟩
  have oKw : TalKw P w K mg base C D := ⟨f1, fd1, G1, mC, M1, kbn_init F1⟩
  have oRa : Prp P w K mg base C "rate" 2 ["self"] (spRate C) := by
    obtain ⟨p, f, fd, F2, pr, b⟩ := dP.ex
    exact ⟨p, f, fd, ok_rate F2 rc T oLo, pr, b⟩
  obtain ⟨fB, fdB, FB, MB, bB⟩ := mCby.ex
  have oBy : Mth P w K mg base C "by" 3 ["self", "time"] (spTold C) := ⟨fB, fdB, ok_by FB oTb, MB, bB⟩
  have oBk : ByKw P w K mg base C := ⟨fB, fdB, ok_by FB oTb, MB, kbn_by FB⟩
  have oEq : EqT P w K mg base C := by
    obtain ⟨f, fd, F2, ⟨a, i, k⟩, b⟩ := mCeq.ex
    exact ⟨f, fd, ok_eq F2 rc T Z0, a, i, b⟩
  have oT := ok_take (P := P) (w := w) (base := base) dlawtake T
  have oP := ok_pick dlawpick T oT
  have oSt := ok_steps dlawsteps T oT
  have oR := ok_raw dlawraw oT oSt
  have oA := ok_at (P := P) (w := w) (base := base) dlawat T
  have oMd := ok_made dlawmade oMk
  have oDi := ok_div (P := P) (w := w) (base := base) dlawdivisor T
  have oLw := ok_lowest dlawlowest T oDi
  have oOt := ok_other dlawotherwise T oT
  have oLe := ok_least (P := P) (w := w) (base := base) dlawisleast T rc
  have oTo := ok_told_right dlawtoldright T rc oBy oRa oA oLw oLe
  have oWr := ok_wrongL dlawwrong T oT oP
  have oRe := ok_refused dRef T dlawheard ZH oMk TB oWr oMd
  exact ok_law F ⟨T, rc, Z0, oEq, oKw, oR, oMd, oOt, oTo, oBk, oBy⟩ (ok_box dlawbox T) oA oRe
theorem end_mk {P : Program} {w : World} {K : PySem.W.Frag} {h : Heap} {mg : Str → Option Value} {C D W IR c Pt fa f ft : Addr} (X : K.In h) (G : h.Ns mainGlobals mg) (hfa : mg "law" = some (.ref fa))
    {oc : Value} {od an : Option Addr} {osl : Array (Option Value)} {kV doc pm cdv ct : Value} {oc2 : Value} {od2 an2 : Option Addr} {osl2 : Array (Option Value)} {kV2 doc2 pm2 ct2 : Value} {e3 : Value} {d3 : Option Addr} {vs3 : Array Value} {sl3 : Array (Option Value)}
    (a : PySem.W.nsIn K mainGlobals "law" = some (some (.ref f))) (l : K.lookup f = some ⟨oc, od, .func (PySem.W.fnOf "law" "law" (defArgs s_law) (defBody s_law) (defScope s_law) .none kV doc pm an cdv ct), osl⟩) (cf : PySem.W.codeIn K cdv "law" = true) (k : PySem.W.keepIn K (.ref f) = true)
    (ta : PySem.W.nsIn K mainGlobals "_law_refused_right" = some (some (.ref ft))) (tl : K.lookup ft = some ⟨oc2, od2, .func (PySem.W.fnOf "_law_refused_right" "_law_refused_right" (defArgs s_law_refused_right) (defBody s_law_refused_right) (defScope s_law_refused_right) .none kV2 doc2 pm2 an2 (.ref c) ct2), osl2⟩)
    (tm : K.lookup c = some ⟨e3, d3, .fields vs3, sl3⟩) (tv : (vs3[11]? : Option Value) = some (.ref Pt)) (tn : K.lookup Pt = none)
    (disinteger : Df K mg "is_integer" s_is_integer ["value"]) (disnumber : Df K mg "is_number" s_is_number ["value"]) (dissequence : Df K mg "is_sequence" s_is_sequence ["value"]) (distupleof : Df K mg "is_tuple_of" s_is_tuple_of ["value", "many"]) (dinlowestterms : Df K mg "in_lowest_terms" s_in_lowest_terms ["top", "bottom"]) (dleastform : Df K mg "least_form" s_least_form ["first", "again", "turn", "more"]) (dmoved : Df K mg "_moved" s_moved ["steps", "lasts", "grow"]) (dshortestfirst : Df K mg "_shortest_first" s_shortest_first ["first", "again", "turn", "more"]) (dtoldby : Df K mg "told_by" s_told_by ["steps", "time"]) (dlastby : Df K mg "_last_by" s_last_by ["steps", "time"]) (dwrongargument : Df K mg "_wrong_argument" s_wrong_argument ["under", "first", "again", "turn", "more"]) (disstep : Df K mg "_is_step" s_is_step ["step"]) (disendlessstep : Df K mg "_is_endless_step" s_is_endless_step ["step"]) (drise : Df K mg "_rise" s_rise ["steps"]) (dlawbox : Df K mg "_law_box" s_law_box ["script", "k"]) (dlawtake : Df K mg "_law_take" s_law_take ["box", "many"]) (dlawpick : Df K mg "_law_pick" s_law_pick ["box", "some"]) (dlawsteps : Df K mg "_law_steps" s_law_steps ["box", "time", "count", "many"]) (dlawraw : Df K mg "_law_raw" s_law_raw ["box"]) (dlawat : Df K mg "_law_at" s_law_at ["raw", "time"]) (dlawmade : Df K mg "_law_made" s_law_made ["raw"]) (dlawdivisor : Df K mg "_law_divisor" s_law_divisor ["one", "other"]) (dlawlowest : Df K mg "_law_lowest" s_law_lowest ["upper", "lower"]) (dlawheard : Df K mg "_law_heard" s_law_heard ["work"]) (dlawotherwise : Df K mg "_law_otherwise" s_law_otherwise ["box", "raw"]) (dlawisleast : Df K mg "_law_is_least" s_law_is_least ["made"]) (dlawtoldright : Df K mg "_law_told_right" s_law_told_right ["raw", "made"]) (dlawwrong : Df K mg "_law_wrong" s_law_wrong ["box"]) (dRef : DfC K mg "_law_refused_right" s_law_refused_right ["box"] c) (dI : DfI K mg C) (dET : DfE K mg "InvalidTally" "word" "InvalidTally.__init__" s_IY_init D) (dP : DfP K C "rate" "Tally.rate" s_Tally_rate ["self"]) (mCby : DfM K C "by" "Tally.by" s_Tally_by ["self", "time"]) (mCeq : DfM K C "__eq__" "Tally.__eq__" s_Tally_eq ["self", "other"]) (tx : Txt mg) (gGc : mg "gcd" = some (.builtin "math.gcd")) (rc : TalCls K C) (gR : mg "Tally" = some (.ref C)) (gWa : mg "WaitError" = some (.ref W)) (gIR : mg "InvalidRow" = some (.ref IR)) (haC : PySem.W.findIn K (.ref C) "__class__" = some (some (.builtin "object.__class__"))) (hmC : PySem.W.mroIn K C (.type "object") = some true) (zneC : PySem.W.findIn K (.ref C) "__ne__" = some (some (.builtin "object.__ne__"))) (zhn : PySem.W.specialIn K (.builtin "object.__class__") "__get__" = some (some (.builtin "getset_descriptor.__get__"))) (zht : PySem.W.takesIn K (.builtin "object.__class__") = some true) (ic : PySem.W.isClsIn K C = true) (tc : PySem.W.typeIn K (.ref C) = some (.type "type")) (efD : EfC K D "word") (zbDD : PySem.W.subIn K (.ref D) (.ref D) = some true) (zbDW : PySem.W.subIn K (.ref D) (.ref W) = some true) (zbDI : PySem.W.subIn K (.ref D) (.ref IR) = some false) (cW : PySem.W.isClsIn K W = true) (tW : PySem.W.typeIn K (.ref W) = some (.type "type")) (cIR : PySem.W.isClsIn K IR = true) (tIR : PySem.W.typeIn K (.ref IR) = some (.type "type")) :
    ∃ (fd : FuncData) (c t : Addr) (sp : Sp), (∀ (s : Shared) (u : Value), BindsTo s fd ⟨[u], []⟩ [("script", u)]) ∧ PySem.W.tabIn K "_law_refused_right" = some (c, t) ∧ K.lookup t = none ∧
      (∀ (H : Hp) (a : Addr) (ns : List Int), ns.length ≤ 63 → H t = some (.tbl #[]) → SqL K H a (ns.map V.int) → sp [.ref a] H (fun v _ => v = .bl true) fun _ _ _ => False) ∧
      ∀ base : Heap, K.In base → base.Ns mainGlobals mg → LamX.TabB base mg c t → MyG.FnG P w K mg base 12 fa fd ["script"] sp := by
  have e := hfa.symm.trans (PySem.W.mg_of X G a)
  cases e
  exact ⟨_, c, Pt, spLaw K [(Pt, "_law_refused_right.<locals>.<lambda>")], fun s v => .of_eq rfl, MyG.tab_mk ta tl rfl tm tv, tn, fun H a ns hl hT hS => ⟨a, ns, rfl, hS, hl, fun p hp => (by rw [List.mem_singleton.mp hp]; exact LamX.TabS.nil hT), fun _ => rfl⟩, fun base _ _ TB => all_ok disinteger disnumber dissequence distupleof dinlowestterms dleastform dmoved dshortestfirst dtoldby dlastby dwrongargument disstep disendlessstep drise dlawbox dlawtake dlawpick dlawsteps dlawraw dlawat dlawmade dlawdivisor dlawlowest dlawheard dlawotherwise dlawisleast dlawtoldright dlawwrong dRef dI dET dP mCby mCeq tx gGc rc gR gWa gIR haC hmC zneC zhn zht ic tc efD zbDD zbDW zbDI cW tW cIR tIR (fun_mk (st := s_law) l cf k) base TB⟩
end My

open PySem PySem.W PyProof.Rows in
set_option maxHeartbeats 0 in
theorem PySem.Challenge.cw_waitworks_k87_tallies_made_holds : PySem.Challenge.rw_waitworks_k87_tallies_made.Holds := by
  w_on; o_law; k_head; (case hw => w_witness2)
  k_fill
  refine MyG.walk_GT (l := PySem.Challenge.rw_waitworks_k87_tallies_made) (n := 63) (k := 12) (x := "script") (y := "_law_refused_right") rfl (by decide) rfl ⟨rfl, by decide, by decide⟩ (fun w h Y => PySem.W.km_in_of Y) (by rfl) ?F
  case F =>
    intro w mg fa h KX G hmg
    refine' My.end_mk KX G hmg ?aL ?lL ?cL ?kL ?taL ?tlL ?tmL ?tvL ?tnL ?disinteger ?disnumber ?dissequence ?distupleof ?dinlowestterms ?dleastform ?dmoved ?dshortestfirst ?dtoldby ?dlastby ?dwrongargument ?disstep ?disendlessstep ?drise ?dlawbox ?dlawtake ?dlawpick ?dlawsteps ?dlawraw ?dlawat ?dlawmade ?dlawdivisor ?dlawlowest ?dlawheard ?dlawotherwise ?dlawisleast ?dlawtoldright ?dlawwrong ?dRef ?dI ?dET ?dP ?mCby ?mCeq ?tx ?gGc ?rc ?gR ?gWa ?gIR ?haC ?hmC ?zneC ?zhn ?zht ?ic ?tc ?efD ?zbDD ?zbDW ?zbDI ?cW ?tW ?cIR ?tIR
    (case aL => k_is)
    (case lL => k_is)
    (case cL => k_is)
    (case kL => k_is)
    (case taL => k_is)
    (case tlL => k_is)
    (case tmL => k_is)
    (case tvL => rfl)
    (case tnL => first | rfl | kernel_rfl)
    (case disinteger => (refine' My.df_mk KX G ?a ?l ?c ?k (fun _ _ _ _ _ _ us hl => match us, hl with | [_], _ => rfl)); (case a => k_is); (case l => k_is); (case c => k_is); (case k => k_is))
    (case disnumber => (refine' My.df_mk KX G ?a ?l ?c ?k (fun _ _ _ _ _ _ us hl => match us, hl with | [_], _ => rfl)); (case a => k_is); (case l => k_is); (case c => k_is); (case k => k_is))
    (case dissequence => (refine' My.df_mk KX G ?a ?l ?c ?k (fun _ _ _ _ _ _ us hl => match us, hl with | [_], _ => rfl)); (case a => k_is); (case l => k_is); (case c => k_is); (case k => k_is))
    (case distupleof => (refine' My.df_mk KX G ?a ?l ?c ?k (fun _ _ _ _ _ _ us hl => match us, hl with | [_, _], _ => rfl)); (case a => k_is); (case l => k_is); (case c => k_is); (case k => k_is))
    (case dinlowestterms => (refine' My.df_mk KX G ?a ?l ?c ?k (fun _ _ _ _ _ _ us hl => match us, hl with | [_, _], _ => rfl)); (case a => k_is); (case l => k_is); (case c => k_is); (case k => k_is))
    (case dleastform => (refine' My.df_mk KX G ?a ?l ?c ?k (fun _ _ _ _ _ _ us hl => match us, hl with | [_, _, _, _], _ => rfl)); (case a => k_is); (case l => k_is); (case c => k_is); (case k => k_is))
    (case dmoved => (refine' My.df_mk KX G ?a ?l ?c ?k (fun _ _ _ _ _ _ us hl => match us, hl with | [_, _, _], _ => rfl)); (case a => k_is); (case l => k_is); (case c => k_is); (case k => k_is))
    (case dshortestfirst => (refine' My.df_mk KX G ?a ?l ?c ?k (fun _ _ _ _ _ _ us hl => match us, hl with | [_, _, _, _], _ => rfl)); (case a => k_is); (case l => k_is); (case c => k_is); (case k => k_is))
    (case dtoldby => (refine' My.df_mk KX G ?a ?l ?c ?k (fun _ _ _ _ _ _ us hl => match us, hl with | [_, _], _ => rfl)); (case a => k_is); (case l => k_is); (case c => k_is); (case k => k_is))
    (case dlastby => (refine' My.df_mk KX G ?a ?l ?c ?k (fun _ _ _ _ _ _ us hl => match us, hl with | [_, _], _ => rfl)); (case a => k_is); (case l => k_is); (case c => k_is); (case k => k_is))
    (case dwrongargument => (refine' My.df_mk KX G ?a ?l ?c ?k (fun _ _ _ _ _ _ us hl => match us, hl with | [_, _, _, _, _], _ => rfl)); (case a => k_is); (case l => k_is); (case c => k_is); (case k => k_is))
    (case disstep => (refine' My.df_mk KX G ?a ?l ?c ?k (fun _ _ _ _ _ _ us hl => match us, hl with | [_], _ => rfl)); (case a => k_is); (case l => k_is); (case c => k_is); (case k => k_is))
    (case disendlessstep => (refine' My.df_mk KX G ?a ?l ?c ?k (fun _ _ _ _ _ _ us hl => match us, hl with | [_], _ => rfl)); (case a => k_is); (case l => k_is); (case c => k_is); (case k => k_is))
    (case drise => (refine' My.df_mk KX G ?a ?l ?c ?k (fun _ _ _ _ _ _ us hl => match us, hl with | [_], _ => rfl)); (case a => k_is); (case l => k_is); (case c => k_is); (case k => k_is))
    (case dlawbox => (refine' My.df_mk KX G ?a ?l ?c ?k (fun _ _ _ _ _ _ us hl => match us, hl with | [_, _], _ => rfl)); (case a => k_is); (case l => k_is); (case c => k_is); (case k => k_is))
    (case dlawtake => (refine' My.df_mk KX G ?a ?l ?c ?k (fun _ _ _ _ _ _ us hl => match us, hl with | [_, _], _ => rfl)); (case a => k_is); (case l => k_is); (case c => k_is); (case k => k_is))
    (case dlawpick => (refine' My.df_mk KX G ?a ?l ?c ?k (fun _ _ _ _ _ _ us hl => match us, hl with | [_, _], _ => rfl)); (case a => k_is); (case l => k_is); (case c => k_is); (case k => k_is))
    (case dlawsteps => (refine' My.df_mk KX G ?a ?l ?c ?k (fun _ _ _ _ _ _ us hl => match us, hl with | [_, _, _, _], _ => rfl)); (case a => k_is); (case l => k_is); (case c => k_is); (case k => k_is))
    (case dlawraw => (refine' My.df_mk KX G ?a ?l ?c ?k (fun _ _ _ _ _ _ us hl => match us, hl with | [_], _ => rfl)); (case a => k_is); (case l => k_is); (case c => k_is); (case k => k_is))
    (case dlawat => (refine' My.df_mk KX G ?a ?l ?c ?k (fun _ _ _ _ _ _ us hl => match us, hl with | [_, _], _ => rfl)); (case a => k_is); (case l => k_is); (case c => k_is); (case k => k_is))
    (case dlawmade => (refine' My.df_mk KX G ?a ?l ?c ?k (fun _ _ _ _ _ _ us hl => match us, hl with | [_], _ => rfl)); (case a => k_is); (case l => k_is); (case c => k_is); (case k => k_is))
    (case dlawdivisor => (refine' My.df_mk KX G ?a ?l ?c ?k (fun _ _ _ _ _ _ us hl => match us, hl with | [_, _], _ => rfl)); (case a => k_is); (case l => k_is); (case c => k_is); (case k => k_is))
    (case dlawlowest => (refine' My.df_mk KX G ?a ?l ?c ?k (fun _ _ _ _ _ _ us hl => match us, hl with | [_, _], _ => rfl)); (case a => k_is); (case l => k_is); (case c => k_is); (case k => k_is))
    (case dlawheard => (refine' My.df_mk KX G ?a ?l ?c ?k (fun _ _ _ _ _ _ us hl => match us, hl with | [_], _ => rfl)); (case a => k_is); (case l => k_is); (case c => k_is); (case k => k_is))
    (case dlawotherwise => (refine' My.df_mk KX G ?a ?l ?c ?k (fun _ _ _ _ _ _ us hl => match us, hl with | [_, _], _ => rfl)); (case a => k_is); (case l => k_is); (case c => k_is); (case k => k_is))
    (case dlawisleast => (refine' My.df_mk KX G ?a ?l ?c ?k (fun _ _ _ _ _ _ us hl => match us, hl with | [_], _ => rfl)); (case a => k_is); (case l => k_is); (case c => k_is); (case k => k_is))
    (case dlawtoldright => (refine' My.df_mk KX G ?a ?l ?c ?k (fun _ _ _ _ _ _ us hl => match us, hl with | [_, _], _ => rfl)); (case a => k_is); (case l => k_is); (case c => k_is); (case k => k_is))
    (case dlawwrong => (refine' My.df_mk KX G ?a ?l ?c ?k (fun _ _ _ _ _ _ us hl => match us, hl with | [_], _ => rfl)); (case a => k_is); (case l => k_is); (case c => k_is); (case k => k_is))
    (case dRef => (refine' My.dfc_mk KX G ?a ?l ?c ?k (fun _ _ _ _ _ _ us hl => match us, hl with | [_], _ => rfl)); (case a => k_is); (case l => k_is); (case c => k_is); (case k => k_is))
    (case dI => (refine' My.dfi_mk KX G ?aC ?a ?i ?mk ?kc ?l ?c ?k); (case aC => k_is); (case a => k_is); (case i => k_is); (case mk => k_is); (case kc => k_is); (case l => k_is); (case c => k_is); (case k => k_is))
    (case dET => (refine' My.dfe_mk KX G ?aD ?xL ?sa ?eC ?tC ?kC ?a1 ?t1 ?l ?c ?k (fun _ _ _ _ _ _ us hl => match us, hl with | [_, _], _ => rfl)); (case aD => k_is); (case xL => k_is); (case sa => k_is); (case eC => k_is); (case tC => k_is); (case kC => k_is); (case a1 => k_is); (case t1 => k_is); (case l => k_is); (case c => k_is); (case k => k_is))
    (case dP => (refine' My.dfp_mk ?a ?g ?t ?r ?l ?c ?k (fun _ _ _ _ _ _ us hl => match us, hl with | [_], _ => rfl)); (case a => k_is); (case g => k_is); (case t => k_is); (case r => k_is); (case l => k_is); (case c => k_is); (case k => k_is))
    (case mCby => (refine' My.dfm_mk ?a ?i ?l ?c ?k (fun _ _ _ _ _ _ us hl => match us, hl with | [_, _], _ => rfl)); (case a => k_is); (case i => k_is); (case l => k_is); (case c => k_is); (case k => k_is))
    (case mCeq => (refine' My.dfm_mk ?a ?i ?l ?c ?k (fun _ _ _ _ _ _ us hl => match us, hl with | [_, _], _ => rfl)); (case a => k_is); (case i => k_is); (case l => k_is); (case c => k_is); (case k => k_is))
    (case tx => refine' ⟨mg_none_of KX G ?_, mg_none_of KX G ?_, mg_none_of KX G ?_, mg_none_of KX G ?_, mg_none_of KX G ?_, mg_none_of KX G ?_, mg_none_of KX G ?_, mg_none_of KX G ?_, mg_none_of KX G ?_, mg_none_of KX G ?_, mg_none_of KX G ?_, mg_none_of KX G ?_, mg_none_of KX G ?_, mg_none_of KX G ?_⟩ <;> k_is)
    (case gGc => (refine' mg_of KX G ?_); k_is)
    (case rc => (refine' My.rc_mk ?pg ?hd ?po ?sa ?n0 ?n1 ?n2 ?n3 ?n4); (case pg => k_is); (case hd => k_is); (case po => k_is); (case sa => k_is); (case n0 => k_is); (case n1 => k_is); (case n2 => k_is); (case n3 => k_is); (case n4 => k_is))
    (case gR => (refine' mg_of KX G ?_); k_is)
    (case gWa => (refine' mg_of KX G ?_); k_is)
    (case gIR => (refine' mg_of KX G ?_); k_is)
    (case haC => k_is)
    (case hmC => first | rfl | k_is)
    (case zneC => k_is)
    (case zhn => k_is)
    (case zht => k_is)
    (case ic => k_is)
    (case tc => k_is)
    (case efD => (refine' My.ef_mk ?zg ?zk ?zs ?zd ?za ?zn ?zt ?zm ?zw ?zy); (case zg => k_is); (case zk => k_is); (case zs => k_is); (case zd => k_is); (case za => k_is); (case zn => k_is); (case zt => k_is); (case zm => first | rfl | k_is); (case zw => k_is); (case zy => k_is))
    (case zbDD => first | rfl | k_is)
    (case zbDW => first | rfl | k_is)
    (case zbDI => first | rfl | k_is)
    (case cW => k_is)
    (case tW => k_is)
    (case cIR => k_is)
    (case tIR => k_is)
